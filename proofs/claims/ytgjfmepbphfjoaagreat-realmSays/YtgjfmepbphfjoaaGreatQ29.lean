/-
  x
-/
import Derived.Test.YtgjfmepbphfjoaaGreatQ27
namespace Go.Proofs.YtgjfmepbphfjoaaGreat
set_option maxRecDepth 100000
set_option maxHeartbeats 4000000
set_option linter.unusedVariables false
open Go.RowKit
theorem zmF(a:Option Addr)(c:Nat)(S:List Nd)(k:Nat)(u:Int)(w:World)(wf:WF S)(F:zeu a c S)(J:zae w a S)(T:k<S.length)(I:zar S [((k:Int),u)]=0) :
  Calls Tryz.prog 86 #[.agg #[.slice a S.length c],.agg #[.int .i64 k,.int .i64 u]] w fun e w' => ∃ A cap,e=.returned (.tuple #[.slice A (zaw S S.length k).length cap,.int .i64 0])/\Below w.heap.size w w' /\ zaj w' A (zaw S S.length k):=by
 refine(zoR a c S k u w wf F J T I).mono (fun e w' ⟨v,e1,M,U⟩=>?_);obtain⟨V,Z,D,O,_⟩:=zat U;subst D;exact⟨V,Z,e1,M,O⟩
def zet(L:List Slt)(x:Int):Bool:=L.any fun s=>decide (s.num=x)
theorem zna(L:List Slt)(s:Slt)(j:Int):(if j=s.num then true else zet L j)=zet (L++[s]) j:=by
 unfold zet;rw[List.any_append];by_cases e:j=s.num
 ·simp[e]
 ·have:¬ s.num=j:=fun h=>e h.symm;simp[e,this]
def zcN(w:World)(b:Nat)(pl num:Int)(v:Value):Prop:=w.heap[b]?=some (.cells #[.int .i64 pl,.int .i64 num,v] 143 (0,0))
theorem zcN.cells{w:World}{b:Nat}{pl num:Int}{v:Value}(h:zcN w b pl num v):w.cell? ⟨b,0,none⟩=some (.int .i64 pl)/\w.cell? ⟨b,1,none⟩=some (.int .i64 num)/\w.cell? ⟨b,2,none⟩=some v/\∀ o,w.frozen? ⟨b,o,none⟩=false:=by
 unfold zcN at h;exact⟨by simp[World.cell?,h],by simp[World.cell?,h],by simp[World.cell?,h],fun o=>by simp[World.frozen?,h]⟩
theorem zcN.set{w:World}{b:Nat}{pl num:Int}{v A:Value}(h:zcN w b pl num v):zcN (w.setCell ⟨b,2,none⟩ A) b pl num A:=by
 show (w.heap.modify b _)[b]?=_;rw[Array.getElem?_modify,yd rfl,h];rfl
theorem zcN.new(w:World)(pl num:Int)(v:Value):zcN (w.alloc (.cells #[.int .i64 pl,.int .i64 num,v] 143)) w.heap.size pl num v:=heap_alloc_new w _
theorem zdX.step2{M w3:World}{B:Nat}{L:List Slt}{K:Nat->Value}{v v1 v2:Value}{s:Slt}{o3:Obj}(I:zdX B L K v M)(w:M.ownsRow B 3 1 v1 s.gv.length (s.gv.map (Value.int .i64)))
  (V:(M.alloc o3).grownBy w3 v.ownBlock) (J:w3.ownsRow B 143 3 v2 (L.length+1) (zeq L K++zep s v1)) :
  zdX B (L++[s]) (fun i=>if i=L.length then v1 else K i) v2 w3:=by
 obtain⟨U,A⟩:=I
 have e3:∀ k,k<M.heap.size->v.ownBlock≠some k->w3.heap[k]?=M.heap[k]?:=fun k A O =>
  (V.block k (by simp;omega) (fun e=>O e.symm)).trans (Below.heap_alloc _ _ _ A)
 refine⟨?_,fun i Z=>?_⟩
 ·rw[<- zgH,List.length_append,List.length_singleton];exact J
 ·rw[List.length_append,List.length_singleton] at Z;by_cases T:i=L.length
  ·subst T;simp only[if_true];rw[zil];exact zao w (fun k A=>e3 k (w.lt k A).2 (zbH w U (by decide) k A))
  ·simp only[ya T];have F:i<L.length:=by omega
   rw[zim F];have D:=A i F;exact zao D (fun k A=>e3 k (D.lt k A).2 (zbH D U (by decide) k A))
theorem zhK(w:World)(x:Value)(t:TypeId):∀ j u,[x][j]?=some u->(w.alloc (.cells #[x] t)).cell? ((⟨w.heap.size,0,none⟩:Addr).add j)=some u:=by
 intro j u A
 match j,A with
 | 0,A =>
  simp at A;subst A;simp[Addr.add]
theorem zoV(a:Option Addr)(c:Nat)(S:List Nd)(H r:Nat)(w:World)(wf:WF S)(hC:zeu a c S)(hH:H<S.length)(hr:r<S.length)(er:zbw S H=r)(hh:(nd S r).h=H)(hS:zae w a S) :
  Calls Tryz.prog 117 #[.agg #[.slice a S.length c],.int .i64 (H:Int)] w fun e w' => ∃ v K,e=.returned v/\Below w.heap.size w w' /\ zdX w.heap.size (zaz S H) K v w' := by
 obtain⟨i0,j6,k9,l1,l3⟩:=info_parts zog;obtain⟨j0,j8,l4,l5,l6⟩:=info_parts info3;have hN:=wf.small;have hu:=wf.used_host hr (by omega)
 have j3:Hid (zaz S H=zaG S H (zaw S S.length r)):=by
  show _=_;unfold zaz;rw[er,ya (by omega),yg]
 have d:=fun(W:World) (hW:zae W a S)=>zcV a c S (H:Int) W (by omega) (by omega) hW;rw[er] at d;have D:Hid _:=d;have DO:Hid (∀ W,zae W a S->Calls _ _ _ _ _):=fun W hW=>zmF a c S r (nd S r).n W wf hC hW hr (zjz hr hu rfl wf);have HS:Hid (zae w a S):=hS
 have TT:Hid (∀ y,y<S.length->0<=(nd S y).t/\(nd S y).t<=99):=fun y hy=>by
  have h1:=(zbc (wf.node y hy)).1;unfold zbV at h1;simp at h1;omega
 have PL:Hid (∀ y ∈ zaw S S.length r,∃ x:Nat,y=x/\x<S.length):=fun y hy=>by
  obtain⟨q,e,hq,_⟩:=zcc wf hr (wf.deep_all hr) y hy;exact⟨q,e,hq⟩
 have KP:Hid (∀ j,j<(nd S H).ks.length->∃ x:Nat,(nd S H).ks.getD j 0=x/\x<S.length):=fun j hj=>by
  obtain⟨k,e,hk,_⟩:=wf.kid hH (x:=(nd S H).ks.getD j 0) (by rw[zaf _ _ hj];exact List.getElem_mem hj);exact⟨k,e,hk⟩
 have KL:(nd S H).ks.length<=24:=wf.kids_small hH;have h5:(zaw S S.length r).length<=24:=by have:=zdc wf hr;omega
 clear d hS hu er wf hC;generalize zaw S S.length r=P at *;obtain⟨m,hm⟩:∃ m,P.length=m:=⟨_,rfl⟩;have HM:Hid (P.length=m):=hm;rw[hm] at DO h5;obtain⟨n,hn⟩:∃ n,S.length=n:=⟨_,rfl⟩;have HN:Hid (S.length=n):=hn;rw[hn] at hN hH hr D DO TT PL KP |-;have m2:(H:Int)<(n:Int):=by omega
 have m8:(r:Int)<(n:Int):=by omega
 have m9:((r:Int) == -1)=false:=by simp
 have n1:decide ((r:Int) = -1)=false:=by simp
 have MF:Hid (∀ mk,zbF S H mk=flt (zaM S mk) (nd S H).ks):=fun _=>rfl;obtain⟨Ks,d9⟩:∃ z,(nd S H).ks=z:=⟨_,rfl⟩;have i9:Hid ((nd S H).ks=Ks):=d9;rw[d9] at KP KL MF;obtain⟨kl,e9⟩:∃ z,Ks.length=z:=⟨_,rfl⟩;have b8:Hid (Ks.length=kl):=e9;rw[e9] at KP KL;clear hn hm d9 e9;have m6:=@run_makeMap Tryz.prog
 go_enter Tryz.func117,Tryz.ntmps117
 go_wp2_with fail
 refine yf (D.out _ (HS.out.below (zab _ _))) ?_;rintro e w1 ⟨rfl,e0⟩;have l0:=zac (zad w #[.slice a n c] 24 0 rfl) e0;have b7:Hid (Below w.heap.size w w1):=(zab w _).trans (e0.mono (by simp));obtain⟨nb,no,ea,_,c1,_⟩:=(HS.out.below b7.out) r (by rw[HN.out];exact hr);subst ea;have q0:=ye _ _ l0;have q1:=ye _ _ c1;clear e0 D;generalize (nd S r).n=U at *
 go_wp2_with fail
 go_region_held3 (fun i5=>i5.cell? ⟨w.heap.size,0,none⟩=some (.slice (some ⟨nb,no,none⟩) n c)/\i5.cell? ⟨nb,no+r*8+1,none⟩=some (.int .i64 U)) (go_keep) (first|(go_at_call 86;refine(yf (DO.out _ ?nd) ?_);(case nd=>exact HS.out.below b7.out.drew);rintro e w2 ⟨sa,cap,rfl,a6,hI⟩;have f9:Hid (Below w.heap.size w w2):=b7.out.drew.trans (a6.mono b7.out.size);have l2:w2.cell? ⟨w.heap.size,0,none⟩=some (.slice (some ⟨nb,no,none⟩) n c):=(a6.cell (by exact q0)).trans l0;have d1:w2.cell? ⟨nb,no+r*8+1,none⟩=some (.int .i64 U):=(a6.cell (by exact q1)).trans c1;have s2:w.heap.size<w2.heap.size:=ys q0 a6.size;have s3:nb<w2.heap.size:=ys q1 a6.size;have HI:Hid (zaj w2 sa P):=hI;clear a6 hI))
 have g5:Hid (zaA (w2.alloc (.map #[] 0)) w2.heap.size 0 (zet (zaG S H (P.take 0)))):=(zaA.made w2).congr (fun x=>rfl)
 go_wp2_with fail
 go_loopg [9,37] m (fun g s9 s37 wr=>∃ (i:Nat) (K:Nat->Value),i<=m/\m-i<=g/\s37=.int .i64 i/\Hid (Below w2.heap.size w2 wr)/\w2.heap.size+1<=wr.heap.size/\Hid (zaA wr w2.heap.size i (zet (zaG S H (P.take i))))/\Hid (zdX (w2.heap.size+1) (zaG S H (P.take i)) K s9 wr))
 case atStart=>exact⟨0,fun _=>.slice none 0 0,by omega,by omega,rfl,zab _ _,by simp,g5,(show zdX (w2.heap.size+1) (zaG S H []) _ _ _ from ⟨World.ownsRow_nil _ _ _ _,fun i hi=>by cases hi⟩)⟩
 case round =>
  obtain⟨i,K,hi,hg,rfl,HB,k7,MK,HO⟩:=hrel;clear g5;have cs:=zac l2 HB.out;have HF:(zaG S H (P.take i)).length<=24:=zjt i (by rw[HM.out];exact h5);obtain⟨qa,qc,hv,_⟩:=HO.out.slts;subst hv;have a7:Hid (Below w.heap.size w wr):=f9.out.trans (HB.out.mono f9.out.size);have l7:=MK.out.lt;by_cases f6:i<m
  ·obtain⟨y,hy,h9⟩:=PL.out (P.getD i 0) (by rw[zaf P 0 (by rw[HM.out];exact f6)];exact List.getElem_mem _);obtain⟨pb,po,ep,k3⟩:=(HI.out.below HB.out) i (by rw[HM.out];exact f6);subst ep;rw[hy] at k3;obtain⟨i3,i4,ea,_,_,c2,_⟩:=(HS.out.below a7.out) y (by rw[HN.out];exact h9);cases ea;obtain⟨i3,i4,ea,_,_,_,_,_,⟨ka,kc,k5,e8⟩,_⟩:=(HS.out.below a7.out) H (by rw[HN.out];exact hH);cases ea;rw[i9.out] at k5 e8;rw[b8.out] at k5;have i8:Hid (zaj wr ka Ks):=e8;have n3:(y:Int)<(n:Int):=by omega
   have m5:(i:Int)<(m:Int):=by omega
   have NX:Hid (zaG S H (P.take (i+1))=zcf S H (zaG S H (P.take i)) (y:Int)):=zhA (by rw[HM.out];exact f6) hy;have ht:=TT.out y h9;have HT:Hid (zmq S (y:Int)=(nd S y).t-90):=by show _=_;unfold zmq;rw[yg]
   clear hy e8;generalize (nd S y).t=T at *;obtain⟨Q,hQ⟩:∃ Q,T-90=Q:=⟨_,rfl⟩;have hw:IntKind.i64.wrap (T-90)=Q:=by rw[hQ];have:=hQ;unfold IntKind.wrap;simp[IntKind.bits,IntKind.signed];omega
   generalize zaG S H (P.take i)=L at *;obtain⟨ln,f0⟩:∃ z,L.length=z:=⟨_,rfl⟩;have g4:Hid (L.length=ln):=f0;rw[f0] at HO HF |-;clear f0;by_cases c7:Q<0
   ·have EQ:Hid (zaG S H (P.take (i+1))=L):=by
     show _=_;rw[NX.out];unfold zcf;rw[yd (by rw[HT.out];omega)]
    go_wp2_with fail
    go_roundg (m-(i+1))
    case measure=>omega
    case rel=>exact⟨i+1,K,by omega,by omega,by go_num,HB,k7,(show zaA _ _ _ _ by rw[EQ.out];exact MK.out.mono (by omega)),(show zdX _ (zaG S H (P.take (i+1))) K (.slice qa ln qc) _ by rw[EQ.out];exact HO.out)⟩
   ·have m7:0<=Q/\Q<=9:=by omega
    have EQ:Hid (zaG S H (P.take (i+1))=L++[⟨(y:Int),Q,if zet L Q then [] else zbF S H Q⟩]):=by
     show _=_;rw[NX.out];unfold zcf;rw[HT.out,hQ,ya (by omega)];rfl
    have h8:(Lit.int .i64 Q).wf=true:=by
     have h:=zir (q:=Q.toNat) (by omega)
     rwa [show ((Q.toNat:Nat):Int)=Q by omega] at h
    have k1:¬ Q<0:=c7;have k2:decide (Q<0)=false:=decide_eq_false c7;clear NX HT hQ ht;have zs:=ye _ _ cs;obtain⟨t,f7⟩:∃ t,zet L Q=t:=⟨_,rfl⟩;have j1:Hid (zet L Q=t):=f7;rw[f7] at EQ;clear f7;obtain⟨V,hV⟩:∃ V,V=wr:=⟨_,rfl⟩;subst hV;have h3:Hid (zcN (V.alloc (.cells #[.int .i64 (y:Int),.int .i64 Q,.slice none 0 0] 143)) V.heap.size (y:Int) Q (.slice none 0 0)):=zcN.new V _ _ _;have zb:=ye _ _ k5;have i1:Hid (([]:List Int)=if t then [] else flt (zaM S Q) (Ks.take 0)):=by show _=_;cases t <;> simp[flt]
    go_wp2_with fail
    go_loopg [60] kl (fun g s60 w5=>∃ (j:Nat) (v:Value) (l:List Int),j<=kl/\kl-j<=g/\s60=.int .i64 j/\l.length<=j/\V.heap.size+1<=w5.heap.size/\Hid (Below V.heap.size V w5)/\Hid (zcN w5 V.heap.size (y:Int) Q v)/\Hid (w5.ownsRow (V.heap.size+1) 3 1 v l.length (l.map (Value.int .i64)))/\Hid (l=if t then [] else flt (zaM S Q) (Ks.take j)))
    case atStart=>exact⟨0,.slice none 0 0,[],by omega,by omega,rfl,by simp,by simp,zab _ _,h3,World.ownsRow_nil _ _ _ _,i1⟩
    case round =>
     obtain⟨j,v,l,hj,m4,rfl,h6,b6,O,SB,M,b9⟩:=hrel;clear h3 i1;obtain⟨va,vc,hv,_⟩:=zcp M.out;subst hv;obtain⟨b0,b1,b2,bf⟩:=SB.out.cells;have j4:=bf 2;have j5:=zac cs O.out;have n4:=ye _ _ j5;have g6:Hid (zaA wr w2.heap.size i (zet L)):=MK.out.kept (O.out.block _ l7);have a9:=g6.out.look (t:=125) Tryz.underlying125 (k:=Q) h8;rw[j1.out] at a9;have g3:Hid (Below w.heap.size w wr):=a7.out.trans (O.out.mono a7.out.size);by_cases b4:j<kl
     ·have l8:(j:Int)<(kl:Int):=by omega
      obtain⟨x,hx,k8⟩:=KP.out j b4;obtain⟨kb,ko,ek,k0⟩:=(i8.out.below O.out) j (by rw[b8.out];exact b4);subst ek;rw[hx] at k0;obtain⟨i3,i4,ea,_,_,_,c3,_⟩:=(HS.out.below g3.out) x (by rw[HN.out];exact k8);cases ea;have m0:(x:Int)<(n:Int):=by omega
      have a8:Hid (flt (zaM S Q) (Ks.take (j+1))=flt (zaM S Q) (Ks.take j)++(if (nd S x).m=Q then [(x:Int)] else [])):=by
       have e:=zcY (zaM S Q) Ks j (by rw[b8.out];exact b4);rw[hx] at e;show flt _ _=_;rw[e];unfold zaM;rw[yg];by_cases h:(nd S x).m=Q <;> simp[h]
      clear hx;generalize (nd S x).m=mk at *;obtain⟨A,F⟩:∃ z,l.length=z:=⟨_,rfl⟩;have I:Hid (l.length=A):=F;rw[F] at M h6 b2;have d7:Hid (zcN wr V.heap.size (y:Int) Q (.slice va A vc)):=by have h:=SB.out;rw[F] at h;exact h
      clear F SB
      cases t with
      | true =>
       have E2:Hid (l=if true then [] else flt (zaM S Q) (Ks.take (j+1))):=b9.out;clear a8
       go_wp2_with fail
       go_roundg (kl-(j+1))
       case measure=>omega
       case rel=>exact⟨j+1,_,l,by omega,by omega,by go_num,by rw[I.out];omega,b6,O,d7,(show World.ownsRow _ _ _ _ _ _ _ by rw[I.out];exact M.out),E2⟩
      | false =>
       by_cases b5:mk=Q
       ·have E2:Hid (l++[(x:Int)]=if false then [] else flt (zaM S Q) (Ks.take (j+1))):=by
         show _=flt (zaM S Q) (Ks.take (j+1));rw[a8.out,yd b5,b9.out];rfl
        have OB:Hid (∀ k,(Value.slice va A vc).ownBlock=some k->V.heap.size+1<=k):=fun k hk=>(M.out.lt k hk).1;clear a8;subst b5
        go_wp2_with (at_builtin;refine wpList_append_own _ rfl _ _ 29 rfl (V.heap.size+1) 3 j0 (.int .i64 0) 1 8 Tryz.underlying29 j8 l4 l5 l6 rfl (by decide) (.slice va A vc) A (l.map (Value.int .i64)) rfl (M.out.alloc _) ⟨wr.heap.size,0,none⟩ 1 1 [.int .i64 (x:Int)] rfl rfl (zhK _ _ _) ?c2 ?c3 ?c4 ?c5 ?_)
        case c2=>first|rfl|(intro u hu;simp at hu;subst hu;rfl)|simp
        case c3=>unfold maxLen;omega
        case c4=>omega
        case c5=>first|omega|(simp;omega)
        intro v6 w6 Z a4 _;have e6:(l++[(x:Int)]).map (Value.int .i64)=l.map (Value.int .i64)++[.int .i64 (x:Int)]:=by simp
        rw[<- e6] at Z;obtain⟨na,nc,h7,_⟩:=zcp Z;have e5:(l++[(x:Int)]).length=A+1:=by simp[I.out]
        rw[e5] at h7;subst h7;have k4:=a4.size;simp only[yk] at k4;have e7:Below (V.heap.size+1) wr w6:=((yj _ wr).alloc b6 _).grown a4 (by simp;omega) (fun k hk=>OB.out k hk);have d8:zcN w6 V.heap.size (y:Int) mk (.slice va A vc):=(e7.block V.heap.size (by omega)).trans d7.out;obtain⟨g0,g1,g2,gf⟩:=d8.cells;have m1:=gf 2;have z6:V.heap.size<w6.heap.size:=by omega
        have FS:Hid (zcN (w6.setCell ⟨V.heap.size,2,none⟩ (.slice na (A+1) nc)) V.heap.size (y:Int) mk (.slice na (A+1) nc)):=d8.set;have FB:Hid (Below V.heap.size V (w6.setCell ⟨V.heap.size,2,none⟩ (.slice na (A+1) nc))):=(O.out.trans (e7.mono (by omega))).setCell (by exact yi _) _
        have FO:Hid ((w6.setCell ⟨V.heap.size,2,none⟩ (.slice na (A+1) nc)).ownsRow (V.heap.size+1) 3 1 (.slice na (A+1) nc) (l++[(x:Int)]).length ((l++[(x:Int)]).map (Value.int .i64))):=by
         rw[e5];exact zao Z (fun k hk=>yo _ _ _ _ (by have:=(Z.lt k hk).1;show k≠V.heap.size;omega))
        clear Z a4 e7 d8 e6 gf
        go_wp2_with fail
        go_roundg (kl-(j+1))
        case measure=>omega
        case rel=>exact⟨j+1,_,l++[(x:Int)],by omega,by omega,by go_num,by rw[e5];omega,by simp[World.setCell];omega,FB,FS,FO,E2⟩
       ·have hd:decide (mk=Q)=false:=decide_eq_false b5;have m3:(mk == Q)=false:=beq_eq_false_iff_ne.2 b5
        have E2:Hid (l=if false then [] else flt (zaM S Q) (Ks.take (j+1))):=by
         show _=flt (zaM S Q) (Ks.take (j+1));rw[a8.out,ya b5,b9.out];simp
        clear a8
        go_wp2_with fail
        go_roundg (kl-(j+1))
        case measure=>omega
        case rel=>exact⟨j+1,_,l,by omega,by omega,by go_num,by rw[I.out];omega,b6,O,d7,(show World.ownsRow _ _ _ _ _ _ _ by rw[I.out];exact M.out),E2⟩
     ·have j9:kl=j:=by omega
      subst j9
      have f8:Hid (zaG S H (P.take (i+1))=L++[⟨(y:Int),Q,l⟩]):=by
       show _=_;rw[EQ.out,b9.out,MF.out,List.take_of_length_le (by rw[b8.out];omega)]
      obtain⟨w7,l9,i2,c6⟩:=g6.out.put (t:=125) Tryz.underlying125 (by unfold maxLen;omega) (k:=Q) h8 true;have g7:Hid (zaA w7 w2.heap.size (i+1) (zet (L++[⟨(y:Int),Q,l⟩]))):=i2.congr (fun x=>zna L ⟨(y:Int),Q,l⟩ x);have a5:∀ k,k<wr.heap.size->k≠w2.heap.size->w7.heap[k]?=wr.heap[k]?:=fun k h1 h2=>c6.block k h1 (fun e=>h2 (Option.some.inj e));have n2:=c6.size;have h4:zcN w7 V.heap.size (y:Int) Q (.slice va l.length vc):=(a5 V.heap.size (by omega) (by omega)).trans SB.out;obtain⟨g0,g1,g2,_⟩:=h4.cells;have g8:Hid (w7.ownsRow (w2.heap.size+1) 3 1 (.slice va l.length vc) l.length (l.map (Value.int .i64))):=zau (zao M.out (fun k hk=>a5 k (M.out.lt k hk).2 (by have:=(M.out.lt k hk).1;omega))) (by omega);have d6:Hid (zdX (w2.heap.size+1) L K (.slice qa ln qc) w7):=(HO.out.below O.out).other (fun k h1 h2=>a5 k h2 (by omega));have i6:Hid (Below w2.heap.size w2 w7):=(HB.out.trans (O.out.mono (by omega))).grown c6 (by omega) (fun k hk=>by cases hk;exact yi _);have z7:V.heap.size<w7.heap.size:=by omega
      have g9:Hid (∀ o1,(w7.alloc o1).ownsRow (w2.heap.size+1) 143 3 (.slice qa ln qc) ln (zeq L K)):=fun o1=>(by have h:=d6.out.1;rw[g4.out] at h;exact h.alloc _);clear i2 c6 a5 h4 SB M b0 b1 b2 bf j4 a9;obtain⟨A,F⟩:∃ z,l.length=z:=⟨_,rfl⟩;have I:Hid (l.length=A):=F;rw[F] at g2 g8 h6;clear F
      go_wp2_with (at_builtin;refine wpList_append_own _ rfl _ _ 140 rfl (w2.heap.size+1) 143 i0 _ 3 40 Tryz.underlying140 j6 k9 l1 l3 rfl (by decide) (.slice qa ln qc) ln (zeq L K) rfl (g9.out _) ⟨w7.heap.size,0,none⟩ 1 1 (zep ⟨(y:Int),Q,l⟩ (.slice va A vc)) rfl rfl ?c1 ?c2 ?c3 ?c4 ?c5 ?_)
      case c1=>first|(intro j u h;exact h)|exact zkm (by go_simp) (by go_simp) (by go_simp)
      case c2=>exact zox
      case c3=>unfold maxLen;omega
      case c4=>omega
      case c5=>first|omega|(simp;omega)
      intro v8 w8 c8 J _
      have c9:Hid (zdX (w2.heap.size+1) (zaG S H (P.take (i+1))) (fun k=>if k=L.length then .slice va A vc else K k) v8 w8):=by
       rw[f8.out];exact d6.out.step2 (s:=⟨(y:Int),Q,l⟩) (show World.ownsRow _ _ _ _ _ l.length _ by rw[I.out];exact g8.out) J (by rw[g4.out];exact c8)
      have k6:=J.size;simp only[yk] at k6;have ob:=d6.out.1.lt;have i7:Hid (Below w2.heap.size w2 w8):=(i6.out.alloc (by omega) _).grown J (by simp;omega) (fun k hk=>by have:=(ob k hk).1;omega)
      have j2:Hid (zaA w8 w2.heap.size (i+1) (zet (zaG S H (P.take (i+1))))):=by
       rw[f8.out];exact g7.out.kept ((J.block w2.heap.size (by simp;omega) (fun e=>by have:=(ob _ e.symm).1;omega)).trans (Below.heap_alloc _ _ _ g7.out.lt))
      clear c8 J ob
      go_wp2_with fail
      go_roundg (m-(i+1))
      case measure=>omega
      case rel=>exact⟨i+1,_,by omega,by omega,by go_num,i7,by omega,j2,c9⟩
  ·have j7:m=i:=by omega
   subst j7
   have c9:Hid (zdX w.heap.size (zaz S H) K (.slice qa (zaG S H (P.take m)).length qc) wr):=by
    have h:=HO.out.base (B' := w.heap.size) (by omega);rw[j3.out];have e:P.take m=P:=List.take_of_length_le (by rw[HM.out];omega);rw[e] at h |-;exact h
   clear HO HF MK;generalize (zaG S H (P.take m)).length=ln at *
   go_wp2
   go_ret;exact⟨_,K,rfl,a7.out,c9.out⟩
theorem zoU(a:Option Addr)(c:Nat)(S:List Nd)(H:Nat)(w:World)(M:S.length<=9223372036854775807)(A:zae w a S)(hr:zbw S H = -1) :
  Calls Tryz.prog 117 #[.agg #[.slice a S.length c],.int .i64 (H:Int)] w fun e w' => e=.returned (.slice none 0 0)/\Below w.heap.size w w' := by
 have d:=fun(W:World) (O:zae W a S)=>zcV a c S (H:Int) W M (by omega) O;rw[hr] at d;have D:Hid _:=d;have J:Hid (zae w a S):=A;clear d A hr;generalize S.length=n at *
 go_enter Tryz.func117,Tryz.ntmps117
 go_wp2_with fail
 refine yf (D.out _ (J.out.below (zab _ _))) ?_;rintro e T ⟨rfl,F⟩;have I:Hid (Below w.heap.size w T):=(zab w _).trans (F.mono (by simp));clear F
 go_wp2_with fail
 go_ret;exact⟨rfl,I.out⟩
theorem zmH(a:Option Addr)(c:Nat)(S:List Nd)(H:Nat)(w:World)(wf:WF S)(J:zeu a c S)(M:H<S.length)(A:zae w a S) :
  Calls Tryz.prog 117 #[.agg #[.slice a S.length c],.int .i64 (H:Int)] w fun e w' => ∃ v K,e=.returned v/\Below w.heap.size w w' /\ zdX w.heap.size (zaz S H) K v w' := by
 by_cases hr:zbw S H = -1
 ·refine(zoU a c S H w (by have:=wf.small;omega) A hr).mono fun e w' ⟨T,O⟩=>?_;have D:zaz S H=[]:=by unfold zaz;rw[yd hr]
  refine⟨_,fun _=>.slice none 0 0,T,O,?_⟩;rw[D];exact⟨World.ownsRow_nil _ _ _ _,fun i U=>by cases U⟩
 ·obtain⟨r,h1,F,I,_⟩:=zbM S H hr;exact zoV a c S H r w wf J M h1 F I A
theorem zoW(a:Option Addr)(c:Nat)(S:List Nd)(k:Nat)(w:World)(wf:WF S)(hC:zeu a c S)(hk:k<S.length)(hS:zae w a S) :
  Calls Tryz.prog 89 #[.agg #[.slice a S.length c],.int .i64 (k:Int)] w fun e w' => e=.returned (.int .i64 (toF S k))/\Below w.heap.size w w' := by
 have hN:=wf.small;obtain⟨nb,no,ea,_,_,_,_,c4,_⟩:=hS k hk;subst ea;by_cases O:(nd S k).p = -1
 ·have hT:toF S k = -1:=by unfold toF zcG;rw[yd O];rfl
  rw[hT];rw[O] at c4;have a8:(k:Int)<(S.length:Int):=by omega
  have a9:=ye _ _ c4;clear hS hT O;generalize S.length=n at *
  go_enter Tryz.func89,Tryz.ntmps89
  go_wp2_with fail
  go_ret;exact⟨rfl,zab _ _⟩
 ·obtain⟨J,ep,hpa,_⟩:=wf.parent_place hk O;have hP:zcG S k=zaz S J:=by unfold zcG;rw[ya O,ep,yg]
  have DG:Hid (∀ W,zae W (some ⟨nb,no,none⟩) S->Calls _ _ _ _ _):=fun W hW=>zmH (some ⟨nb,no,none⟩) c S J W wf hC hpa hW;have FW:=zhz wf J
  have GL:Hid (∀ i,i<(zaz S J).length->(slt (zaz S J) i).gv.length<=24):=fun i hi=>by
   have:=zpi wf hk (i:=i) (by rw[hP];exact hi)
   rwa [hP] at this
  have TF:Hid (toF S k=toL (zaz S J) k):=by show _=_;unfold toF;rw[hP]
  have HS:Hid (zae w (some ⟨nb,no,none⟩) S):=hS;rw[ep] at c4;have a8:(k:Int)<(S.length:Int):=by omega
  have a9:=ye _ _ c4;have b8:((J:Int) == -1)=false:=by simp
  have b9:decide ((J:Int) = -1)=false:=by simp
  clear hS hP wf hC ep O;generalize toF S k=R at *;generalize zaz S J=L at *;generalize S.length=n at *
  go_enter Tryz.func89,Tryz.ntmps89
  go_wp2_with fail
  refine yf (DG.out _ (HS.out.below (zab _ _))) ?_;rintro e w2 ⟨v,K,rfl,hb,hO⟩;have D:Hid (Below w.heap.size w w2):=(zab w _).trans (hb.mono (by simp));obtain⟨qa,qc,hv,I⟩:=zdX.slts hO;subst hv;have a5:Hid (zdZ w2 qa L):=I;obtain⟨m,hm⟩:∃ z,L.length=z:=⟨_,rfl⟩;have HM:Hid (L.length=m):=hm;rw[hm] at FW GL |-;clear hb hO DG I hm
  go_wp2_with fail
  go_loopg [20] m (fun g s20 wr=>∃ i:Nat,i<=m/\m-i<=g/\s20=.int .i64 i/\Hid (Below w2.heap.size w2 wr)/\Hid (∀ j,j<i->(k:Int) ∉ (slt L j).gv))
  case atStart=>exact⟨0,by omega,by omega,rfl,yj _ _,fun j hj=>absurd hj (yr _)⟩
  case round =>
   obtain⟨i,hi,hg,rfl,F,NF⟩:=hrel;by_cases M:i<m
   ·have b6:(i:Int)<(m:Int):=by omega
    obtain⟨b,o,ea,f0,f1,ga,gc,f2,A⟩:=(a5.out.below F.out) i (by rw[HM.out];exact M);subst ea;have gl:=GL.out i M;have TS:Hid ((k:Int) ∈ (slt L i).gv->R=(slt L i).pl):=fun h=>TF.out.trans (zlB (by rw[HM.out];exact M) h NF.out);have T:Hid (∀ W,zaj W ga (slt L i).gv->Calls _ _ _ _ _):=fun W hW=>zec ga gc (slt L i).gv (k:Int) W (by omega) hW;have U:Hid (zaj wr ga (slt L i).gv):=A
    have Z:Hid ((k:Int) ∉ (slt L i).gv->∀ j,j<i+1->(k:Int) ∉ (slt L j).gv):=fun h j hj=>by
     by_cases e:j=i
     ·subst e;exact h
     ·exact NF.out j (by omega)
    clear A NF;generalize slt L i=s at *;obtain⟨b5,b7,V⟩:=s;dsimp only at f0 f1 f2 TS T U Z gl;obtain⟨sl,I⟩:∃ z,V.length=z:=⟨_,rfl⟩;rw[I] at f2 T;clear I gl
    go_wp2_with fail
    refine yf (T.out _ (U.out.below (zab _ _))) ?_;rintro e w4 ⟨rfl,b4⟩;subst b4;have a4:Hid (∀ o1,Below w.heap.size w (wr.alloc o1)):=fun o1=>(D.out.trans (F.out.mono D.out.size)).trans ((zab _ _).mono (D.out.trans (F.out.mono D.out.size)).size);by_cases A:(k:Int) ∈ V
    ·rw[decide_eq_true A];have HR:Hid (R=b5):=TS.out A;clear TS Z A T
     go_wp2_with fail
     go_ret;exact⟨by rw[HR.out];rfl,a4.out _⟩
    ·rw[decide_eq_false A];have a6:Hid (∀ j,j<i+1->(k:Int) ∉ (slt L j).gv):=Z.out A;clear TS Z A T
     go_wp2_with fail
     go_roundg (m-(i+1))
     case measure=>omega
     case rel=>exact⟨i+1,by omega,by omega,by go_num,F.out.trans ((zab _ _).mono F.out.size),a6⟩
   ·have a7:m=i:=by omega
    subst a7;have HR:Hid (R = -1):=TF.out.trans (zqO (fun j hj=>NF.out j (by rw[<- HM.out];exact hj)));clear NF
    go_wp2_with fail
    go_ret;exact⟨by rw[HR.out];rfl,D.out.trans (F.out.mono D.out.size)⟩
theorem zjg{S:List Nd}(h:WF S):∀ {f p:Nat},p<S.length->∀ x ∈ zaw S f p,∃ q:Nat,x=q/\q<S.length/\∃ pre,zbj S q=pre++zbj S p/\∀ y ∈ pre,(nd S y.toNat).h = -1
 | 0,p,A,x,hx=>⟨p,by simpa [zaw] using hx,A,[],rfl,fun y hy=>by cases hy⟩
 | f+1,p,A,x,hx=>by
  simp only[zaw,List.mem_cons,List.mem_flatMap] at hx;rcases hx with rfl |⟨k,T,hx⟩
  ·exact⟨p,rfl,A,[],rfl,fun y hy=>by cases hy⟩
  ·obtain⟨O,rfl,w,_,F,J⟩:=h.kid A T;rw[yg] at hx;obtain⟨q,e,hq,pre,D,I⟩:=zjg h w x hx;have M:=h.path_up w A J;refine⟨q,e,hq,pre++[(O:Int)],by rw[D,M];simp,fun y hy=>?_⟩;rcases List.mem_append.1 hy with h1|h1
   ·exact I y h1
   ·have:y=(O:Int):=by simpa using h1
    rw[this,yg];exact(h.host_of_parent w (by rw[F];omega)).1
theorem zfK{S:List Nd}(h:WF S){H:Nat}{s:Slt}(hs:s ∈ zaz S H){k:Nat}(T:s.pl=k):∃ r rest,k<S.length/\r<S.length/\(nd S r).h=H/\zdU S k=(r:Int) :: rest:=by
 obtain⟨r,k', _,J,M,U,V,Z,_,_,_,_,O⟩:=zbe h hs;have D:k=k' := by omega
 subst D;obtain⟨w,_⟩:=zft _ s O;obtain⟨q,e,hq,pre,A,F⟩:=zjg h J _ w;have I:q=k:=by omega
 subst I;refine⟨r,flt (zcq S) (zaT S S.length (zah (nd S r))),hq,J,M,?_⟩;unfold zdU;rw[A];unfold flt;rw[List.filter_append]
 have e1:pre.filter (fun x=>!zcq S x)=[]:=by
  rw[List.filter_eq_nil_iff];intro y hy;unfold zcq;have:=F y hy;simp[this]
 rw[e1,List.nil_append];unfold zbj;rw[List.filter_cons,yd];unfold zcq;rw[yg,M];simp
theorem zjq{S:List Nd}(h:WF S){H A:Nat}{s F:Slt}(hs:s ∈ zaz S H)(w:F ∈ zaz S A)(e:s.pl=F.pl):H=A:=by
 obtain⟨M,k,_,_,_,_,D,_⟩:=zbe h hs;obtain⟨r,_,_,_,h1,e1⟩:=zfK h hs D;obtain⟨I,_,_,_,J,e2⟩:=zfK h w (e.symm.trans D);rw[e1] at e2;have:r=I:=by have:=(List.cons.inj e2).1;omega
 subst this;omega
theorem zjr{S:List Nd}(h:WF S){H:Nat}{s D:Slt}(hs:s ∈ zaz S H)(w:D ∈ zaz S H)(e:s.pl=D.pl):s=D:=by
 have A:=zcT h (H:=H);obtain⟨i,F,rfl⟩:=List.getElem_of_mem hs;obtain⟨j,I,rfl⟩:=List.getElem_of_mem w;have J:=List.pairwise_iff_getElem.1 (List.nodup_iff_pairwise_ne.1 A);rcases Nat.lt_trichotomy i j with h1|h1|h1
 ·have:=J i j (by rw[List.length_map];exact F) (by rw[List.length_map];exact I) h1;rw[List.getElem_map,List.getElem_map] at this;exact absurd e this
 ·subst h1;rfl
 ·have:=J j i (by rw[List.length_map];exact I) (by rw[List.length_map];exact F) h1;rw[List.getElem_map,List.getElem_map] at this;exact absurd e.symm this
theorem zhT{S:List Nd}(h:WF S){H:Nat}{s:Slt}(hs:s ∈ zaz S H){k:Nat}(w:s.pl=k):∀ m,zcJ S m k=if H<m then s.gv else []
 | 0=>by rw[ya (by omega)];rfl
 | m+1=>by
  rw[zcJ]
  cases hf:(zaz S m).find? (fun s=>decide (s.pl=(k:Int))) with
  | some M =>
   have h1:=List.mem_of_find?_eq_some hf;have F:=List.find?_some hf;have D:M.pl=(k:Int):=by simpa using F
   have A:=zjq h hs h1 (w.trans D.symm);subst A;have:=zjr h hs h1 (w.trans D.symm);subst this;rw[yd (by omega)]
  | none =>
   have J:=zhT h hs w m
   have I:m≠H:=fun e=>by
    subst e;have:=List.find?_eq_none.1 hf s hs;simp[w] at this
   show zcJ S m k=_;rw[J];by_cases h1:H<m
   ·rw[yd h1,yd (by omega)]
   ·rw[ya h1,ya (by omega)]
theorem zkE{S:List Nd}(h:WF S){n k:Nat}(hn:n<S.length)(w:toF S n=k):∃ H s,H<S.length/\(nd S n).p=H/\s ∈ zaz S H/\s.pl=k/\(n:Int) ∈ s.gv:=by
 unfold toF toL at w
 cases hf:(zcG S n).find? (fun s=>decide ((n:Int) ∈ s.gv)) with
 | none=>rw[hf] at w;simp at w
 | some s =>
  rw[hf] at w;have h1:=List.mem_of_find?_eq_some hf;have A:=List.find?_some hf;unfold zcG at h1
  split at h1
  ·cases h1
  ·rename_i D;obtain⟨F,e,hpa,_⟩:=h.parent_place hn D;rw[e,yg] at h1;exact⟨F,s,hpa,e,h1,w,by simpa using A⟩
theorem zph{S:List Nd}(h:WF S){H:Nat}(I:H<S.length){s:Slt}(hs:s ∈ zaz S H){c:Int}(w:c ∈ s.gv):∃ n:Nat,c=n/\n<S.length/\(nd S n).u=true/\toF S n=s.pl:=by
 obtain⟨i,A,rfl⟩:=List.getElem_of_mem hs;rw[<- zbN A] at w |-;obtain⟨n,e,h1,D,_,F,_⟩:=zjW h I A w;exact⟨n,e,h1,D,F⟩
theorem zlb{S:List Nd}(h:WF S){k:Nat}:zcJ S S.length k≠[]↔∃ n:Nat,n<S.length/\(nd S n).u=true/\toF S n=k:=by
 constructor
 ·intro w;obtain⟨c,U⟩:=List.exists_mem_of_ne_nil _ w;obtain⟨H,s,h1,D,F,I⟩:=zfi U;obtain⟨n,e,J,M,O⟩:=zph h h1 D I;exact⟨n,J,M,O.trans F⟩
 ·rintro⟨n,hn,_,V⟩;obtain⟨H,s,T,_,hs,A,Z⟩:=zkE h hn V;rw[zhT h hs A,yd T];exact List.ne_nil_of_mem Z
theorem znU{S:List Nd}(h:WF S){k:Nat}(V:zcJ S S.length k≠[]):∃ r H rest,r<S.length/\H<S.length/\(nd S r).h=H/\zdU S k=(r:Int) :: rest/\zcJ S S.length k=(nd S H).ks.filter (fun c=>decide (toF S c.toNat=(k:Int))):=by
 obtain⟨n,hn,_,hk⟩:=(zlb h).1 V;obtain⟨H,s,O,_,hs,w,hm⟩:=zkE h hn hk;obtain⟨r,rest,_,hr,Z,A⟩:=zfK h hs w;refine⟨r,H,rest,hr,O,Z,A,?_⟩;rw[zhT h hs w,yd O];obtain⟨_,_,_,_,_,_,_,_,_,_,_,r6,_⟩:=zbe h hs;have I:=r6.resolve_left (fun e=>by rw[e] at hm;cases hm);rw[I];unfold zbF flt;refine List.filter_congr (fun c hc=>?_);obtain⟨F,rfl,T,_⟩:=h.kid O hc
 have iff:(F:Int) ∈ s.gv↔toF S F=k:=by
  constructor
  ·intro h1;obtain⟨n', e,_,_,h4⟩:=zph h O hs h1;have:F=n' := by omega
   subst this;exact h4.trans w
  ·intro h1;obtain⟨H', s', _,a4,J,D,U⟩:=zkE h T h1;have:=zjq h hs J (w.trans D.symm);subst this;have:=zjr h hs J (w.trans D.symm);subst this;exact U
 rw[yg]
 have M:(!zaM S s.num (F:Int))=true↔(F:Int) ∈ s.gv:=by
  rw[I,zck];unfold zaM;simp[hc]
 rw[Bool.eq_iff_iff,M,iff];simp
end Go.Proofs.YtgjfmepbphfjoaaGreat
