/-
  x
-/
import Derived.Test.YtojlkdekdbdpoaaGreatJLiLjWcLkLqLrLoRpRqZbZcZdZeZiZkRsLsLn
import Derived.Test.YtojlkdekdbdpoaaGreatJRv
namespace Go.Proofs.YtojlkdekdbdpoaaGreat
set_option maxRecDepth 100000
set_option maxHeartbeats 4000000
open Go.RowKit
theorem zkj(a:Option Addr)(c:Nat)(S:List Nd)(k:Nat)(u:Int)(w:World)(wf:WF S)(hC:RChk a c S)(hS:NdsAt w a S)(hk:k<S.length)(hE:zao S [((k:Int),u)]=0) :
  Calls Tryz.prog 75 #[.agg #[.slice a S.length c],.agg #[.int .i64 k,.int .i64 u]] w fun e w' => ∃ sa cap,e=.returned (.tuple #[.slice sa (zat S S.length k).length cap,.int .i64 0])∧Below w.heap.size w w' ∧ zah w' sa (zat S S.length k):=by
 refine(zmv a c S k u w wf hC hS hk hE).mono (fun e w' ⟨v,e1,hb,ho⟩=>?_)
 obtain⟨pa,pc,h5,hi,_⟩:=zar ho
 subst h5
 exact⟨pa,pc,e1,hb,hi⟩
def zds(L:List Slt)(x:Int):Bool:=L.any fun s=>decide (s.num=x)
theorem zlt(L:List Slt)(s:Slt)(j:Int):(if j=s.num then true else zds L j)=zds (L++[s]) j:=by
 unfold zds
 rw[List.any_append]
 by_cases e:j=s.num
 ·simp[e]
 ·have:¬ s.num=j:=fun h=>e h.symm
  simp[e,this]
def zcw(w:World)(b:Nat)(pl num:Int)(v:Value):Prop:=w.heap[b]?=some (.cells #[.int .i64 pl,.int .i64 num,v] 133 (0,0))
theorem zcw.cells{w:World}{b:Nat}{pl num:Int}{v:Value}(h:zcw w b pl num v):w.cell? ⟨b,0,none⟩=some (.int .i64 pl)∧w.cell? ⟨b,1,none⟩=some (.int .i64 num)∧w.cell? ⟨b,2,none⟩=some v∧∀ o,w.frozen? ⟨b,o,none⟩=false:=by
 unfold zcw at h
 exact⟨by simp[World.cell?,h],by simp[World.cell?,h],by simp[World.cell?,h],fun o=>by simp[World.frozen?,h]⟩
theorem zcw.set{w:World}{b:Nat}{pl num:Int}{v v' : Value}(h:zcw w b pl num v):zcw (w.setCell ⟨b,2,none⟩ v') b pl num v' := by
 show (w.heap.modify b _)[b]?=_
 rw[Array.getElem?_modify,if_pos rfl,h]
 rfl
theorem zcw.new(w:World)(pl num:Int)(v:Value):zcw (w.alloc (.cells #[.int .i64 pl,.int .i64 num,v] 133)) w.heap.size pl num v:=heap_alloc_new w _
theorem OwnS.step2{w5 w3:World}{B:Nat}{L:List Slt}{K:Nat→Value}{v v1 v2:Value}{s:Slt}{o3:Obj}(I:OwnS B L K v w5)(own1:w5.ownsRow B 3 1 v1 s.gv.length (s.gv.map (Value.int .i64)))
  (h3:(w5.alloc o3).grownBy w3 v.ownBlock) (own3:w3.ownsRow B 133 3 v2 (L.length+1) (zdu L K++scell s v1)) :
  OwnS B (L++[s]) (fun i=>if i=L.length then v1 else K i) v2 w3:=by
 obtain⟨hm,hk⟩:=I
 have e3:∀ k,k<w5.heap.size→v.ownBlock≠some k→w3.heap[k]?=w5.heap[k]?:=fun k hk hk2 =>
  (h3.block k (by simp;omega) (fun e=>hk2 e.symm)).trans (Below.heap_alloc _ _ _ hk)
 refine⟨?_,fun i hi=>?_⟩
 ·rw[← zfx,List.length_append,List.length_singleton]
  exact own3
 ·rw[List.length_append,List.length_singleton] at hi
  by_cases ei:i=L.length
  ·subst ei
   simp only[if_true]
   rw[zgP]
   exact zam own1 (fun k hk=>e3 k (own1.lt k hk).2 (zbr own1 hm (by decide) k hk))
  ·simp only[if_neg ei]
   have hi' : i<L.length:=by omega
   rw[zhe hi']
   have hkr:=hk i hi'
   exact zam hkr (fun k hk=>e3 k (hkr.lt k hk).2 (zbr hkr hm (by decide) k hk))
theorem zgR(w:World)(x:Value)(t:TypeId):∀ j u,[x][j]?=some u→(w.alloc (.cells #[x] t)).cell? ((⟨w.heap.size,0,none⟩:Addr).add j)=some u:=by
 intro j u hj
 match j,hj with
 | 0,hj =>
  simp at hj
  subst hj
  simp[Addr.add]
theorem zlV(a:Option Addr)(c:Nat)(S:List Nd)(H r:Nat)(w:World)(wf:WF S)(hC:RChk a c S)(hH:H<S.length)(hr:r<S.length)(er:rootE S H=r)(hh:(nd S r).h=H)(hS:NdsAt w a S) :
  Calls Tryz.prog 107 #[.agg #[.slice a S.length c],.int .i64 (H:Int)] w fun e w' => ∃ v K,e=.returned v∧Below w.heap.size w w' ∧ OwnS w.heap.size (zaw S H) K v w' := by
 obtain⟨i0,hi0,hz0,hz1,hz2⟩:=info_parts zme
 obtain⟨j0,hj0,jz0,jz1,jz2⟩:=info_parts info3
 have hN:=wf.small
 have hu:=wf.used_host hr (by omega)
 have RES:Hid (zaw S H=zaD S H (zat S S.length r)):=by
  show _=_
  unfold zaw
  rw[er,if_neg (by omega),Int.toNat_natCast]
 have d:=fun(W:World) (hW:NdsAt W a S)=>zcz a c S (H:Int) W (by omega) (by omega) hW
 rw[er] at d
 have D:Hid _:=d
 have DO:Hid (∀ W,NdsAt W a S→Calls _ _ _ _ _):=fun W hW=>zkj a c S r (nd S r).n W wf hC hW hr (zil hr hu rfl wf)
 have HS:Hid (NdsAt w a S):=hS
 have TT:Hid (∀ y,y<S.length→0≤(nd S y).t∧(nd S y).t≤99):=fun y hy=>by
  have h1:=(zaV (wf.node y hy)).1
  unfold zbF at h1
  simp at h1
  omega
 have PL:Hid (∀ y ∈ zat S S.length r,∃ x:Nat,y=x∧x<S.length):=fun y hy=>by
  obtain⟨q,e,hq,_⟩:=zbL wf hr (wf.deep_all hr) y hy
  exact⟨q,e,hq⟩
 have KP:Hid (∀ j,j<(nd S H).ks.length→∃ x:Nat,(nd S H).ks.getD j 0=x∧x<S.length):=fun j hj=>by
  obtain⟨k,e,hk,_⟩:=wf.kid hH (x:=(nd S H).ks.getD j 0) (by rw[zad _ _ hj];exact List.getElem_mem hj)
  exact⟨k,e,hk⟩
 have KL:(nd S H).ks.length≤24:=wf.kids_small hH
 have hPl:(zat S S.length r).length≤24:=by have:=zcA wf hr;omega
 clear d hS hu er wf hC
 generalize zat S S.length r=P at *
 obtain⟨m,hm⟩:∃ m,P.length=m:=⟨_,rfl⟩
 have HM:Hid (P.length=m):=hm
 rw[hm] at DO hPl
 obtain⟨n,hn⟩:∃ n,S.length=n:=⟨_,rfl⟩
 have HN:Hid (S.length=n):=hn
 rw[hn] at hN hH hr D DO TT PL KP ⊢
 have hH2:(H:Int)<(n:Int):=by omega
 have hr2:(r:Int)<(n:Int):=by omega
 have hr3:((r:Int) == -1)=false:=by simp
 have hr4:decide ((r:Int) = -1)=false:=by simp
 have MF:Hid (∀ mk,zbt S H mk=flt (zaG S mk) (nd S H).ks):=fun _=>rfl
 obtain⟨Ks,hKs⟩:∃ z,(nd S H).ks=z:=⟨_,rfl⟩
 have HKs:Hid ((nd S H).ks=Ks):=hKs
 rw[hKs] at KP KL MF
 obtain⟨kl,hkl⟩:∃ z,Ks.length=z:=⟨_,rfl⟩
 have HKL:Hid (Ks.length=kl):=hkl
 rw[hkl] at KP KL
 clear hn hm hKs hkl
 have hmm:=@run_makeMap Tryz.prog
 go_enter Tryz.func107,Tryz.ntmps107
 go_wp2_with fail
 refine Calls.mono (D.out _ (HS.out.below (zab _ _))) ?_
 rintro e w1 ⟨rfl,hb1⟩
 have l0:=keepC (zac w #[.slice a n c] 24 0 rfl) hb1
 have HB1:Hid (Below w.heap.size w w1):=(zab w _).trans (hb1.mono (by simp))
 obtain⟨nb,no,ea,_,c1,_⟩:=(HS.out.below HB1.out) r (by rw[HN.out];exact hr)
 subst ea
 have q0:=World.block_lt_of_cell? _ _ l0
 have q1:=World.block_lt_of_cell? _ _ c1
 clear hb1 D
 generalize (nd S r).n=U at *
 go_wp2_with fail
 go_region_held3 (fun w'' => w''.cell? ⟨w.heap.size,0,none⟩=some (.slice (some ⟨nb,no,none⟩) n c)∧w''.cell? ⟨nb,no+r*8+1,none⟩=some (.int .i64 U)) (go_keep) (first|(go_at_call 75;refine(Calls.mono (DO.out _ ?nd) ?_);(case nd=>exact HS.out.below HB1.out.drew);rintro e w2 ⟨sa,cap,rfl,hb2,hI⟩;have HB2:Hid (Below w.heap.size w w2):=HB1.out.drew.trans (hb2.mono HB1.out.size);have l2:w2.cell? ⟨w.heap.size,0,none⟩=some (.slice (some ⟨nb,no,none⟩) n c):=(hb2.cell (by exact q0)).trans l0;have d1:w2.cell? ⟨nb,no+r*8+1,none⟩=some (.int .i64 U):=(hb2.cell (by exact q1)).trans c1;have s2:w.heap.size<w2.heap.size:=Nat.lt_of_lt_of_le q0 hb2.size;have s3:nb<w2.heap.size:=Nat.lt_of_lt_of_le q1 hb2.size;have HI:Hid (zah w2 sa P):=hI;clear hb2 hI))
 have MK0:Hid (zax (w2.alloc (.map #[] 0)) w2.heap.size 0 (zds (zaD S H (P.take 0)))):=(zax.made w2).congr (fun x=>rfl)
 go_wp2_with fail
 go_loopg [9,37] m (fun g s9 s37 wr=>∃ (i:Nat) (K:Nat→Value),i≤m∧m-i≤g∧s37=.int .i64 i∧Hid (Below w2.heap.size w2 wr)∧w2.heap.size+1≤wr.heap.size∧Hid (zax wr w2.heap.size i (zds (zaD S H (P.take i))))∧Hid (OwnS (w2.heap.size+1) (zaD S H (P.take i)) K s9 wr))
 case atStart=>exact⟨0,fun _=>.slice none 0 0,by omega,by omega,rfl,zab _ _,by simp,MK0,(show OwnS (w2.heap.size+1) (zaD S H []) _ _ _ from ⟨World.ownsRow_nil _ _ _ _,fun i hi=>by cases hi⟩)⟩
 case round =>
  obtain⟨i,K,hi,hg,rfl,HB,hsz,MK,HO⟩:=hrel
  clear MK0
  have cs:=keepC l2 HB.out
  have HF:(zaD S H (P.take i)).length≤24:=zim i (by rw[HM.out];exact hPl)
  obtain⟨qa,qc,hv,_⟩:=HO.out.slts
  subst hv
  have HBW:Hid (Below w.heap.size w wr):=HB2.out.trans (HB.out.mono HB2.out.size)
  have mlt:=MK.out.lt
  by_cases hlt:i<m
  ·obtain⟨y,hy,hyn⟩:=PL.out (P.getD i 0) (by rw[zad P 0 (by rw[HM.out];exact hlt)];exact List.getElem_mem _)
   obtain⟨pb,po,ep,hpc⟩:=(HI.out.below HB.out) i (by rw[HM.out];exact hlt)
   subst ep
   rw[hy] at hpc
   obtain⟨nb', no', ea,_,_,c2,_⟩:=(HS.out.below HBW.out) y (by rw[HN.out];exact hyn)
   cases ea
   obtain⟨nb', no', ea,_,_,_,_,_,⟨ka,kc,k5,hki⟩,_⟩:=(HS.out.below HBW.out) H (by rw[HN.out];exact hH)
   cases ea
   rw[HKs.out] at k5 hki
   rw[HKL.out] at k5
   have HKI:Hid (zah wr ka Ks):=hki
   have hy2:(y:Int)<(n:Int):=by omega
   have hi2:(i:Int)<(m:Int):=by omega
   have NX:Hid (zaD S H (P.take (i+1))=zbN S H (zaD S H (P.take i)) (y:Int)):=zge (by rw[HM.out];exact hlt) hy
   have ht:=TT.out y hyn
   have HT:Hid (numF S (y:Int)=(nd S y).t-90):=by show _=_;unfold numF;rw[Int.toNat_natCast]
   clear hy hki
   generalize (nd S y).t=T at *
   obtain⟨Q,hQ⟩:∃ Q,T-90=Q:=⟨_,rfl⟩
   have hw:IntKind.i64.wrap (T-90)=Q:=by rw[hQ];have:=hQ;unfold IntKind.wrap;simp[IntKind.bits,IntKind.signed];omega
   generalize zaD S H (P.take i)=L at *
   obtain⟨ln,hln⟩:∃ z,L.length=z:=⟨_,rfl⟩
   have HLN:Hid (L.length=ln):=hln
   rw[hln] at HO HF ⊢
   clear hln
   by_cases hneg:Q<0
   ·have EQ:Hid (zaD S H (P.take (i+1))=L):=by
     show _=_
     rw[NX.out]
     unfold zbN
     rw[if_pos (by rw[HT.out];omega)]
    go_wp2_with fail
    go_roundg (m-(i+1))
    case measure=>omega
    case rel=>exact⟨i+1,K,by omega,by omega,by go_num,HB,hsz,(show zax _ _ _ _ by rw[EQ.out];exact MK.out.mono (by omega)),(show OwnS _ (zaD S H (P.take (i+1))) K (.slice qa ln qc) _ by rw[EQ.out];exact HO.out)⟩
   ·have hq9:0≤Q∧Q≤9:=by omega
    have EQ:Hid (zaD S H (P.take (i+1))=L++[⟨(y:Int),Q,if zds L Q then [] else zbt S H Q⟩]):=by
     show _=_
     rw[NX.out]
     unfold zbN
     rw[HT.out,hQ,if_neg (by omega)]
     rfl
    have hwf:(Lit.int .i64 Q).wf=true:=by
     have h:=zhh (q:=Q.toNat) (by omega)
     rwa [show ((Q.toNat:Nat):Int)=Q by omega] at h
    have hneg2:¬ Q<0:=hneg
    have hneg3:decide (Q<0)=false:=decide_eq_false hneg
    clear NX HT hQ ht
    have zs:=World.block_lt_of_cell? _ _ cs
    obtain⟨t,htk⟩:∃ t,zds L Q=t:=⟨_,rfl⟩
    have HTK:Hid (zds L Q=t):=htk
    rw[htk] at EQ
    clear htk
    obtain⟨V,hV⟩:∃ V,V=wr:=⟨_,rfl⟩
    subst hV
    have SB0:Hid (zcw (V.alloc (.cells #[.int .i64 (y:Int),.int .i64 Q,.slice none 0 0] 133)) V.heap.size (y:Int) Q (.slice none 0 0)):=zcw.new V _ _ _
    have zb:=World.block_lt_of_cell? _ _ k5
    have l00:Hid (([]:List Int)=if t then [] else flt (zaG S Q) (Ks.take 0)):=by show _=_;cases t <;> simp[flt]
    go_wp2_with fail
    go_loopg [60] kl (fun g s60 w5=>∃ (j:Nat) (v:Value) (l:List Int),j≤kl∧kl-j≤g∧s60=.int .i64 j∧l.length≤j∧V.heap.size+1≤w5.heap.size∧Hid (Below V.heap.size V w5)∧Hid (zcw w5 V.heap.size (y:Int) Q v)∧Hid (w5.ownsRow (V.heap.size+1) 3 1 v l.length (l.map (Value.int .i64)))∧Hid (l=if t then [] else flt (zaG S Q) (Ks.take j)))
    case atStart=>exact⟨0,.slice none 0 0,[],by omega,by omega,rfl,by simp,by simp,zab _ _,SB0,World.ownsRow_nil _ _ _ _,l00⟩
    case round =>
     obtain⟨j,v,l,hj,hg2,rfl,hlj,hsz5,HB5,SB,HOV,HLE⟩:=hrel
     clear SB0 l00
     obtain⟨va,vc,hv,_⟩:=zcb HOV.out
     subst hv
     obtain⟨b0,b1,b2,bf⟩:=SB.out.cells
     have bf2:=bf 2
     have cs5:=keepC cs HB5.out
     have zs5:=World.block_lt_of_cell? _ _ cs5
     have MK5:Hid (zax wr w2.heap.size i (zds L)):=MK.out.kept (HB5.out.block _ mlt)
     have hlook:=MK5.out.look (t:=112) Tryz.underlying112 (k:=Q) hwf
     rw[HTK.out] at hlook
     have HBW5:Hid (Below w.heap.size w wr):=HBW.out.trans (HB5.out.mono HBW.out.size)
     by_cases hlt3:j<kl
     ·have hlt4:(j:Int)<(kl:Int):=by omega
      obtain⟨x,hx,hxn⟩:=KP.out j hlt3
      obtain⟨kb,ko,ek,hkc⟩:=(HKI.out.below HB5.out) j (by rw[HKL.out];exact hlt3)
      subst ek
      rw[hx] at hkc
      obtain⟨nb', no', ea,_,_,_,c3,_⟩:=(HS.out.below HBW5.out) x (by rw[HN.out];exact hxn)
      cases ea
      have hxn2:(x:Int)<(n:Int):=by omega
      have NXT:Hid (flt (zaG S Q) (Ks.take (j+1))=flt (zaG S Q) (Ks.take j)++(if (nd S x).m=Q then [(x:Int)] else [])):=by
       have e:=zcB (zaG S Q) Ks j (by rw[HKL.out];exact hlt3)
       rw[hx] at e
       show flt _ _=_
       rw[e]
       unfold zaG
       rw[Int.toNat_natCast]
       by_cases h:(nd S x).m=Q <;> simp[h]
      clear hx
      generalize (nd S x).m=mk at *
      obtain⟨ln2,hln2⟩:∃ z,l.length=z:=⟨_,rfl⟩
      have HLN2:Hid (l.length=ln2):=hln2
      rw[hln2] at HOV hlj b2
      have SB2:Hid (zcw wr V.heap.size (y:Int) Q (.slice va ln2 vc)):=by have h:=SB.out;rw[hln2] at h;exact h
      clear hln2 SB
      cases t with
      | true =>
       have E2:Hid (l=if true then [] else flt (zaG S Q) (Ks.take (j+1))):=HLE.out
       clear NXT
       go_wp2_with fail
       go_roundg (kl-(j+1))
       case measure=>omega
       case rel=>exact⟨j+1,_,l,by omega,by omega,by go_num,by rw[HLN2.out];omega,hsz5,HB5,SB2,(show World.ownsRow _ _ _ _ _ _ _ by rw[HLN2.out];exact HOV.out),E2⟩
      | false =>
       by_cases hmk:mk=Q
       ·have E2:Hid (l++[(x:Int)]=if false then [] else flt (zaG S Q) (Ks.take (j+1))):=by
         show _=flt (zaG S Q) (Ks.take (j+1))
         rw[NXT.out,if_pos hmk,HLE.out]
         rfl
        have OB:Hid (∀ k,(Value.slice va ln2 vc).ownBlock=some k→V.heap.size+1≤k):=fun k hk=>(HOV.out.lt k hk).1
        clear NXT
        subst hmk
        go_wp2_with (at_builtin;refine wpList_append_own _ rfl _ _ 29 rfl (V.heap.size+1) 3 j0 (.int .i64 0) 1 8 Tryz.underlying29 hj0 jz0 jz1 jz2 rfl (by decide) (.slice va ln2 vc) ln2 (l.map (Value.int .i64)) rfl (HOV.out.alloc _) ⟨wr.heap.size,0,none⟩ 1 1 [.int .i64 (x:Int)] rfl rfl (zgR _ _ _) ?c2 ?c3 ?c4 ?c5 ?_)
        case c2=>first|rfl|(intro u hu;simp at hu;subst hu;rfl)|simp
        case c3=>unfold maxLen;omega
        case c4=>omega
        case c5=>first|omega|(simp;omega)
        intro v6 w6 own6 grow6 _
        have e6:(l++[(x:Int)]).map (Value.int .i64)=l.map (Value.int .i64)++[.int .i64 (x:Int)]:=by simp
        rw[← e6] at own6
        obtain⟨na,nc,hv6,_⟩:=zcb own6
        have e5:(l++[(x:Int)]).length=ln2+1:=by simp[HLN2.out]
        rw[e5] at hv6
        subst hv6
        have hs6:=grow6.size
        simp only[World.size_alloc] at hs6
        have hb6:Below (V.heap.size+1) wr w6:=((Below.refl _ wr).alloc hsz5 _).grown grow6 (by simp;omega) (fun k hk=>OB.out k hk)
        have SB6:zcw w6 V.heap.size (y:Int) mk (.slice va ln2 vc):=(hb6.block V.heap.size (by omega)).trans SB2.out
        obtain⟨g0,g1,g2,gf⟩:=SB6.cells
        have gf2:=gf 2
        have z6:V.heap.size<w6.heap.size:=by omega
        have FS:Hid (zcw (w6.setCell ⟨V.heap.size,2,none⟩ (.slice na (ln2+1) nc)) V.heap.size (y:Int) mk (.slice na (ln2+1) nc)):=SB6.set
        have FB:Hid (Below V.heap.size V (w6.setCell ⟨V.heap.size,2,none⟩ (.slice na (ln2+1) nc))):=(HB5.out.trans (hb6.mono (by omega))).setCell (by exact Nat.le_refl _) _
        have FO:Hid ((w6.setCell ⟨V.heap.size,2,none⟩ (.slice na (ln2+1) nc)).ownsRow (V.heap.size+1) 3 1 (.slice na (ln2+1) nc) (l++[(x:Int)]).length ((l++[(x:Int)]).map (Value.int .i64))):=by
         rw[e5]
         exact zam own6 (fun k hk=>Below.heap_setCell _ _ _ _ (by have:=(own6.lt k hk).1;show k≠V.heap.size;omega))
        clear own6 grow6 hb6 SB6 e6 gf
        go_wp2_with fail
        go_roundg (kl-(j+1))
        case measure=>omega
        case rel=>exact⟨j+1,_,l++[(x:Int)],by omega,by omega,by go_num,by rw[e5];omega,by simp[World.setCell];omega,FB,FS,FO,E2⟩
       ·have hd:decide (mk=Q)=false:=decide_eq_false hmk
        have hd2:(mk == Q)=false:=beq_eq_false_iff_ne.2 hmk
        have E2:Hid (l=if false then [] else flt (zaG S Q) (Ks.take (j+1))):=by
         show _=flt (zaG S Q) (Ks.take (j+1))
         rw[NXT.out,if_neg hmk,HLE.out]
         simp
        clear NXT
        go_wp2_with fail
        go_roundg (kl-(j+1))
        case measure=>omega
        case rel=>exact⟨j+1,_,l,by omega,by omega,by go_num,by rw[HLN2.out];omega,hsz5,HB5,SB2,(show World.ownsRow _ _ _ _ _ _ _ by rw[HLN2.out];exact HOV.out),E2⟩
     ·have hje:kl=j:=by omega
      subst hje
      have EQ2:Hid (zaD S H (P.take (i+1))=L++[⟨(y:Int),Q,l⟩]):=by
       show _=_
       rw[EQ.out,HLE.out,MF.out,List.take_of_length_le (by rw[HKL.out];omega)]
      obtain⟨w7,hput,mk7,gr7⟩:=MK5.out.put (t:=112) Tryz.underlying112 (by unfold maxLen;omega) (k:=Q) hwf true
      have MK7:Hid (zax w7 w2.heap.size (i+1) (zds (L++[⟨(y:Int),Q,l⟩]))):=mk7.congr (fun x=>zlt L ⟨(y:Int),Q,l⟩ x)
      have far7:∀ k,k<wr.heap.size→k≠w2.heap.size→w7.heap[k]?=wr.heap[k]?:=fun k h1 h2=>gr7.block k h1 (fun e=>h2 (Option.some.inj e))
      have hs7:=gr7.size
      have SB7:zcw w7 V.heap.size (y:Int) Q (.slice va l.length vc):=(far7 V.heap.size (by omega) (by omega)).trans SB.out
      obtain⟨g0,g1,g2,_⟩:=SB7.cells
      have OV7:Hid (w7.ownsRow (w2.heap.size+1) 3 1 (.slice va l.length vc) l.length (l.map (Value.int .i64))):=zas (zam HOV.out (fun k hk=>far7 k (HOV.out.lt k hk).2 (by have:=(HOV.out.lt k hk).1;omega))) (by omega)
      have OS7:Hid (OwnS (w2.heap.size+1) L K (.slice qa ln qc) w7):=(HO.out.below HB5.out).other (fun k h1 h2=>far7 k h2 (by omega))
      have HB7:Hid (Below w2.heap.size w2 w7):=(HB.out.trans (HB5.out.mono (by omega))).grown gr7 (by omega) (fun k hk=>by cases hk;exact Nat.le_refl _)
      have z7:V.heap.size<w7.heap.size:=by omega
      have OWN7:Hid (∀ o1,(w7.alloc o1).ownsRow (w2.heap.size+1) 133 3 (.slice qa ln qc) ln (zdu L K)):=fun o1=>(by have h:=OS7.out.1;rw[HLN.out] at h;exact h.alloc _)
      clear mk7 gr7 far7 SB7 SB HOV b0 b1 b2 bf bf2 hlook
      obtain⟨ln2,hln2⟩:∃ z,l.length=z:=⟨_,rfl⟩
      have HLN2:Hid (l.length=ln2):=hln2
      rw[hln2] at g2 OV7 hlj
      clear hln2
      go_wp2_with (at_builtin;refine wpList_append_own _ rfl _ _ 130 rfl (w2.heap.size+1) 133 i0 _ 3 40 Tryz.underlying130 hi0 hz0 hz1 hz2 rfl (by decide) (.slice qa ln qc) ln (zdu L K) rfl (OWN7.out _) ⟨w7.heap.size,0,none⟩ 1 1 (scell ⟨(y:Int),Q,l⟩ (.slice va ln2 vc)) rfl rfl ?c1 ?c2 ?c3 ?c4 ?c5 ?_)
      case c1=>first|(intro j u h;exact h)|exact news3 (by go_simp) (by go_simp) (by go_simp)
      case c2=>exact one3
      case c3=>unfold maxLen;omega
      case c4=>omega
      case c5=>first|omega|(simp;omega)
      intro v8 w8 own8 grow8 _
      have FIN:Hid (OwnS (w2.heap.size+1) (zaD S H (P.take (i+1))) (fun k=>if k=L.length then .slice va ln2 vc else K k) v8 w8):=by
       rw[EQ2.out]
       exact OS7.out.step2 (s:=⟨(y:Int),Q,l⟩) (show World.ownsRow _ _ _ _ _ l.length _ by rw[HLN2.out];exact OV7.out) grow8 (by rw[HLN.out];exact own8)
      have hs8:=grow8.size
      simp only[World.size_alloc] at hs8
      have ob:=OS7.out.1.lt
      have HB8:Hid (Below w2.heap.size w2 w8):=(HB7.out.alloc (by omega) _).grown grow8 (by simp;omega) (fun k hk=>by have:=(ob k hk).1;omega)
      have MK8:Hid (zax w8 w2.heap.size (i+1) (zds (zaD S H (P.take (i+1))))):=by
       rw[EQ2.out]
       exact MK7.out.kept ((grow8.block w2.heap.size (by simp;omega) (fun e=>by have:=(ob _ e.symm).1;omega)).trans (Below.heap_alloc _ _ _ MK7.out.lt))
      clear own8 grow8 ob
      go_wp2_with fail
      go_roundg (m-(i+1))
      case measure=>omega
      case rel=>exact⟨i+1,_,by omega,by omega,by go_num,HB8,by omega,MK8,FIN⟩
  ·have hie:m=i:=by omega
   subst hie
   have FIN:Hid (OwnS w.heap.size (zaw S H) K (.slice qa (zaD S H (P.take m)).length qc) wr):=by
    have h:=HO.out.base (B' := w.heap.size) (by omega)
    rw[RES.out]
    have e:P.take m=P:=List.take_of_length_le (by rw[HM.out];omega)
    rw[e] at h ⊢
    exact h
   clear HO HF MK
   generalize (zaD S H (P.take m)).length=ln at *
   go_wp2
   go_ret
   exact⟨_,K,rfl,HBW.out,FIN.out⟩
end Go.Proofs.YtojlkdekdbdpoaaGreat

namespace Go.Proofs.YtojlkdekdbdpoaaGreat
set_option maxRecDepth 100000
set_option maxHeartbeats 4000000
open Go.RowKit
theorem zmr(a:Option Addr)(c:Nat)(S:List Nd)(H:Nat)(w:World)(hN:S.length≤9223372036854775807)(hS:NdsAt w a S)(hr:rootE S H = -1) :
  Calls Tryz.prog 107 #[.agg #[.slice a S.length c],.int .i64 (H:Int)] w fun e w' => e=.returned (.slice none 0 0)∧Below w.heap.size w w' := by
 have d:=fun(W:World) (hW:NdsAt W a S)=>zcz a c S (H:Int) W hN (by omega) hW
 rw[hr] at d
 have D:Hid _:=d
 have HS:Hid (NdsAt w a S):=hS
 clear d hS hr
 generalize S.length=n at *
 go_enter Tryz.func107,Tryz.ntmps107
 go_wp2_with fail
 refine Calls.mono (D.out _ (HS.out.below (zab _ _))) ?_
 rintro e w1 ⟨rfl,hb⟩
 have HB:Hid (Below w.heap.size w w1):=(zab w _).trans (hb.mono (by simp))
 clear hb
 go_wp2_with fail
 go_ret
 exact⟨rfl,HB.out⟩
theorem zkU(a:Option Addr)(c:Nat)(S:List Nd)(H:Nat)(w:World)(wf:WF S)(hC:RChk a c S)(hH:H<S.length)(hS:NdsAt w a S) :
  Calls Tryz.prog 107 #[.agg #[.slice a S.length c],.int .i64 (H:Int)] w fun e w' => ∃ v K,e=.returned v∧Below w.heap.size w w' ∧ OwnS w.heap.size (zaw S H) K v w' := by
 by_cases hr:rootE S H = -1
 ·refine(zmr a c S H w (by have:=wf.small;omega) hS hr).mono fun e w' ⟨he,hb⟩=>?_
  have e0:zaw S H=[]:=by unfold zaw;rw[if_pos hr]
  refine⟨_,fun _=>.slice none 0 0,he,hb,?_⟩
  rw[e0]
  exact⟨World.ownsRow_nil _ _ _ _,fun i hi=>by cases hi⟩
 ·obtain⟨r,h1,h2,h3,_⟩:=zby S H hr
  exact zlV a c S H r w wf hC hH h1 h2 h3 hS
theorem znq(a:Option Addr)(c:Nat)(S:List Nd)(k:Nat)(w:World)(wf:WF S)(hC:RChk a c S)(hk:k<S.length)(hS:NdsAt w a S) :
  Calls Tryz.prog 78 #[.agg #[.slice a S.length c],.int .i64 (k:Int)] w fun e w' => e=.returned (.int .i64 (toF S k))∧Below w.heap.size w w' := by
 have hN:=wf.small
 obtain⟨nb,no,ea,_,_,_,_,c4,_⟩:=hS k hk
 subst ea
 by_cases hp:(nd S k).p = -1
 ·have hT:toF S k = -1:=by unfold toF zcl;rw[if_pos hp];rfl
  rw[hT]
  rw[hp] at c4
  have hk2:(k:Int)<(S.length:Int):=by omega
  have hnb:=World.block_lt_of_cell? _ _ c4
  clear hS hT hp
  generalize S.length=n at *
  go_enter Tryz.func78,Tryz.ntmps78
  go_wp2_with fail
  go_ret
  exact⟨rfl,zab _ _⟩
 ·obtain⟨pa,ep,hpa,_⟩:=wf.parent_place hk hp
  have hP:zcl S k=zaw S pa:=by unfold zcl;rw[if_neg hp,ep,Int.toNat_natCast]
  have DG:Hid (∀ W,NdsAt W (some ⟨nb,no,none⟩) S→Calls _ _ _ _ _):=fun W hW=>zkU (some ⟨nb,no,none⟩) c S pa W wf hC hpa hW
  have FW:=zgh wf pa
  have GL:Hid (∀ i,i<(zaw S pa).length→(slt (zaw S pa) i).gv.length≤24):=fun i hi=>by
   have:=znh wf hk (i:=i) (by rw[hP];exact hi)
   rwa [hP] at this
  have TF:Hid (toF S k=toL (zaw S pa) k):=by show _=_;unfold toF;rw[hP]
  have HS:Hid (NdsAt w (some ⟨nb,no,none⟩) S):=hS
  rw[ep] at c4
  have hk2:(k:Int)<(S.length:Int):=by omega
  have hnb:=World.block_lt_of_cell? _ _ c4
  have hq1:((pa:Int) == -1)=false:=by simp
  have hq2:decide ((pa:Int) = -1)=false:=by simp
  clear hS hP wf hC ep hp
  generalize toF S k=R at *
  generalize zaw S pa=L at *
  generalize S.length=n at *
  go_enter Tryz.func78,Tryz.ntmps78
  go_wp2_with fail
  refine Calls.mono (DG.out _ (HS.out.below (zab _ _))) ?_
  rintro e w2 ⟨v,K,rfl,hb,hO⟩
  have HB2:Hid (Below w.heap.size w w2):=(zab w _).trans (hb.mono (by simp))
  obtain⟨qa,qc,hv,hsl⟩:=OwnS.slts hO
  subst hv
  have HSL:Hid (zdz w2 qa L):=hsl
  obtain⟨m,hm⟩:∃ z,L.length=z:=⟨_,rfl⟩
  have HM:Hid (L.length=m):=hm
  rw[hm] at FW GL ⊢
  clear hb hO DG hsl hm
  go_wp2_with fail
  go_loopg [20] m (fun g s20 wr=>∃ i:Nat,i≤m∧m-i≤g∧s20=.int .i64 i∧Hid (Below w2.heap.size w2 wr)∧Hid (∀ j,j<i→(k:Int) ∉ (slt L j).gv))
  case atStart=>exact⟨0,by omega,by omega,rfl,Below.refl _ _,fun j hj=>absurd hj (Nat.not_lt_zero _)⟩
  case round =>
   obtain⟨i,hi,hg,rfl,HB3,NF⟩:=hrel
   by_cases hlt:i<m
   ·have hlt2:(i:Int)<(m:Int):=by omega
    obtain⟨b,o,ea,f0,f1,ga,gc,f2,hin⟩:=(HSL.out.below HB3.out) i (by rw[HM.out];exact hlt)
    subst ea
    have gl:=GL.out i hlt
    have TS:Hid ((k:Int) ∈ (slt L i).gv→R=(slt L i).pl):=fun h=>TF.out.trans (zjD (by rw[HM.out];exact hlt) h NF.out)
    have CT:Hid (∀ W,zah W ga (slt L i).gv→Calls _ _ _ _ _):=fun W hW=>zdy ga gc (slt L i).gv (k:Int) W (by omega) hW
    have HIN:Hid (zah wr ga (slt L i).gv):=hin
    have NX:Hid ((k:Int) ∉ (slt L i).gv→∀ j,j<i+1→(k:Int) ∉ (slt L j).gv):=fun h j hj=>by
     by_cases e:j=i
     ·subst e;exact h
     ·exact NF.out j (by omega)
    clear hin NF
    generalize slt L i=s at *
    obtain⟨spl,snum,sgv⟩:=s
    dsimp only at f0 f1 f2 TS CT HIN NX gl
    obtain⟨sl,hsl⟩:∃ z,sgv.length=z:=⟨_,rfl⟩
    rw[hsl] at f2 CT
    clear hsl gl
    go_wp2_with fail
    refine Calls.mono (CT.out _ (HIN.out.below (zab _ _))) ?_
    rintro e w4 ⟨rfl,hw4⟩
    subst hw4
    have HBF:Hid (∀ o1,Below w.heap.size w (wr.alloc o1)):=fun o1=>(HB2.out.trans (HB3.out.mono HB2.out.size)).trans ((zab _ _).mono (HB2.out.trans (HB3.out.mono HB2.out.size)).size)
    by_cases hin:(k:Int) ∈ sgv
    ·rw[decide_eq_true hin]
     have HR:Hid (R=spl):=TS.out hin
     clear TS NX hin CT
     go_wp2_with fail
     go_ret
     exact⟨by rw[HR.out];rfl,HBF.out _⟩
    ·rw[decide_eq_false hin]
     have NX2:Hid (∀ j,j<i+1→(k:Int) ∉ (slt L j).gv):=NX.out hin
     clear TS NX hin CT
     go_wp2_with fail
     go_roundg (m-(i+1))
     case measure=>omega
     case rel=>exact⟨i+1,by omega,by omega,by go_num,HB3.out.trans ((zab _ _).mono HB3.out.size),NX2⟩
   ·have hie:m=i:=by omega
    subst hie
    have HR:Hid (R = -1):=TF.out.trans (zny (fun j hj=>NF.out j (by rw[← HM.out];exact hj)))
    clear NF
    go_wp2_with fail
    go_ret
    exact⟨by rw[HR.out];rfl,HB2.out.trans (HB3.out.mono HB2.out.size)⟩
end Go.Proofs.YtojlkdekdbdpoaaGreat

namespace Go.Proofs.YtojlkdekdbdpoaaGreat
open Go.RowKit
theorem zhL{S:List Nd}(h:WF S):∀ {f p:Nat},p<S.length→∀ x ∈ zat S f p,∃ q:Nat,x=q∧q<S.length∧∃ pre,pathF S q=pre++pathF S p∧∀ y ∈ pre,(nd S y.toNat).h = -1
 | 0,p,hp,x,hx=>⟨p,by simpa [zat] using hx,hp,[],rfl,fun y hy=>by cases hy⟩
 | f+1,p,hp,x,hx=>by
  simp only[zat,List.mem_cons,List.mem_flatMap] at hx
  rcases hx with rfl |⟨k,hk,hx⟩
  ·exact⟨p,rfl,hp,[],rfl,fun y hy=>by cases hy⟩
  ·obtain⟨kn,rfl,hkn,_,hkp,hru⟩:=h.kid hp hk
   rw[Int.toNat_natCast] at hx
   obtain⟨q,e,hq,pre,hpre,hno⟩:=zhL h hkn x hx
   have hup:=h.path_up hkn hp hru
   refine⟨q,e,hq,pre++[(kn:Int)],by rw[hpre,hup];simp,fun y hy=>?_⟩
   rcases List.mem_append.1 hy with h1|h1
   ·exact hno y h1
   ·have:y=(kn:Int):=by simpa using h1
    rw[this,Int.toNat_natCast]
    exact(h.host_of_parent hkn (by rw[hkp];omega)).1
theorem zeR{S:List Nd}(h:WF S){H:Nat}{s:Slt}(hs:s ∈ zaw S H){k:Nat}(hk:s.pl=k):∃ r rest,k<S.length∧r<S.length∧(nd S r).h=H∧zdp S k=(r:Int) :: rest:=by
 obtain⟨r,k', _,r1,r2,r3,r4,r5,_,_,_,_,hm⟩:=zaX h hs
 have hkk:k=k' := by omega
 subst hkk
 obtain⟨hmem,_⟩:=zeH _ s hm
 obtain⟨q,e,hq,pre,hpre,hno⟩:=zhL h r1 _ hmem
 have hqk:q=k:=by omega
 subst hqk
 refine⟨r,flt (zca S) (lineF S S.length (zae (nd S r))),hq,r1,r2,?_⟩
 unfold zdp
 rw[hpre]
 unfold flt
 rw[List.filter_append]
 have e1:pre.filter (fun x=>!zca S x)=[]:=by
  rw[List.filter_eq_nil_iff]
  intro y hy
  unfold zca
  have:=hno y hy
  simp[this]
 rw[e1,List.nil_append]
 unfold pathF
 rw[List.filter_cons,if_pos]
 unfold zca
 rw[Int.toNat_natCast,r2]
 simp
theorem zhG{S:List Nd}(h:WF S){H H' : Nat}{s s' : Slt}(hs:s ∈ zaw S H)(hs' : s' ∈ zaw S H')(e:s.pl=s'.pl):H=H' := by
 obtain⟨r0,k,_,_,_,_,ek,_⟩:=zaX h hs
 obtain⟨r,_,_,_,h1,e1⟩:=zeR h hs ek
 obtain⟨r', _,_,_,h2,e2⟩:=zeR h hs' (e.symm.trans ek)
 rw[e1] at e2
 have:r=r' := by have:=(List.cons.inj e2).1;omega
 subst this
 omega
theorem zhK{S:List Nd}(h:WF S){H:Nat}{s s' : Slt}(hs:s ∈ zaw S H)(hs' : s' ∈ zaw S H)(e:s.pl=s'.pl):s=s' := by
 have nd1:=zcs h (H:=H)
 obtain⟨i,hi,rfl⟩:=List.getElem_of_mem hs
 obtain⟨j,hj,rfl⟩:=List.getElem_of_mem hs'
 have hp:=List.pairwise_iff_getElem.1 (List.nodup_iff_pairwise_ne.1 nd1)
 rcases Nat.lt_trichotomy i j with h1|h1|h1
 ·have:=hp i j (by rw[List.length_map];exact hi) (by rw[List.length_map];exact hj) h1
  rw[List.getElem_map,List.getElem_map] at this
  exact absurd e this
 ·subst h1;rfl
 ·have:=hp j i (by rw[List.length_map];exact hj) (by rw[List.length_map];exact hi) h1
  rw[List.getElem_map,List.getElem_map] at this
  exact absurd e.symm this
theorem zgI{S:List Nd}(h:WF S){H:Nat}{s:Slt}(hs:s ∈ zaw S H){k:Nat}(hk:s.pl=k):∀ m,givT S m k=if H<m then s.gv else []
 | 0=>by rw[if_neg (by omega)];rfl
 | m+1=>by
  rw[givT]
  cases hf:(zaw S m).find? (fun s=>decide (s.pl=(k:Int))) with
  | some s' =>
   have h1:=List.mem_of_find?_eq_some hf
   have h2:=List.find?_some hf
   have h3:s'.pl=(k:Int):=by simpa using h2
   have hHm:=zhG h hs h1 (hk.trans h3.symm)
   subst hHm
   have:=zhK h hs h1 (hk.trans h3.symm)
   subst this
   rw[if_pos (by omega)]
  | none =>
   have ih:=zgI h hs hk m
   have hne:m≠H:=fun e=>by
    subst e
    have:=List.find?_eq_none.1 hf s hs
    simp[hk] at this
   show givT S m k=_
   rw[ih]
   by_cases h1:H<m
   ·rw[if_pos h1,if_pos (by omega)]
   ·rw[if_neg h1,if_neg (by omega)]
theorem ziR{S:List Nd}(h:WF S){n k:Nat}(hn:n<S.length)(hk:toF S n=k):∃ H s,H<S.length∧(nd S n).p=H∧s ∈ zaw S H∧s.pl=k∧(n:Int) ∈ s.gv:=by
 unfold toF toL at hk
 cases hf:(zcl S n).find? (fun s=>decide ((n:Int) ∈ s.gv)) with
 | none=>rw[hf] at hk;simp at hk
 | some s =>
  rw[hf] at hk
  have h1:=List.mem_of_find?_eq_some hf
  have h2:=List.find?_some hf
  unfold zcl at h1
  split at h1
  ·cases h1
  ·rename_i hp
   obtain⟨pa,e,hpa,_⟩:=h.parent_place hn hp
   rw[e,Int.toNat_natCast] at h1
   exact⟨pa,s,hpa,e,h1,hk,by simpa using h2⟩
theorem zlF{S:List Nd}(h:WF S){H:Nat}(hH:H<S.length){s:Slt}(hs:s ∈ zaw S H){c:Int}(hc:c ∈ s.gv):∃ n:Nat,c=n∧n<S.length∧(nd S n).u=true∧toF S n=s.pl:=by
 obtain⟨i,hi,rfl⟩:=List.getElem_of_mem hs
 rw[← zbx hi] at hc ⊢
 obtain⟨n,e,h1,h2,_,h4,_⟩:=ziI h hH hi hc
 exact⟨n,e,h1,h2,h4⟩
theorem zjL{S:List Nd}(h:WF S){k:Nat}:givT S S.length k≠[]↔∃ n:Nat,n<S.length∧(nd S n).u=true∧toF S n=k:=by
 constructor
 ·intro hne
  obtain⟨c,hc⟩:=List.exists_mem_of_ne_nil _ hne
  obtain⟨H,s,h1,h2,h3,h4⟩:=zeq hc
  obtain⟨n,e,h5,h6,h7⟩:=zlF h h1 h2 h4
  exact⟨n,h5,h6,h7.trans h3⟩
 ·rintro⟨n,hn,_,hk⟩
  obtain⟨H,s,hH,_,hs,hpl,hm⟩:=ziR h hn hk
  rw[zgI h hs hpl,if_pos hH]
  exact List.ne_nil_of_mem hm
theorem zmd{S:List Nd}(h:WF S){k:Nat}(hne:givT S S.length k≠[]):∃ r H rest,r<S.length∧H<S.length∧(nd S r).h=H∧zdp S k=(r:Int) :: rest∧givT S S.length k=(nd S H).ks.filter (fun c=>decide (toF S c.toNat=(k:Int))):=by
 obtain⟨n,hn,_,hk⟩:=(zjL h).1 hne
 obtain⟨H,s,hH,_,hs,hpl,hm⟩:=ziR h hn hk
 obtain⟨r,rest,_,hr,hrh,hroots⟩:=zeR h hs hpl
 refine⟨r,H,rest,hr,hH,hrh,hroots,?_⟩
 rw[zgI h hs hpl,if_pos hH]
 obtain⟨_,_,_,_,_,_,_,_,_,_,_,r6,_⟩:=zaX h hs
 have hgv:=r6.resolve_left (fun e=>by rw[e] at hm;cases hm)
 rw[hgv]
 unfold zbt flt
 refine List.filter_congr (fun c hc=>?_)
 obtain⟨cn,rfl,hcn,_⟩:=h.kid hH hc
 have iff:(cn:Int) ∈ s.gv↔toF S cn=k:=by
  constructor
  ·intro h1
   obtain⟨n', e,_,_,h4⟩:=zlF h hH hs h1
   have:cn=n' := by omega
   subst this
   exact h4.trans hpl
  ·intro h1
   obtain⟨H', s', _,hp', hs', hpl', hm'⟩:=ziR h hcn h1
   have:=zhG h hs hs' (hpl.trans hpl'.symm)
   subst this
   have:=zhK h hs hs' (hpl.trans hpl'.symm)
   subst this
   exact hm'
 rw[Int.toNat_natCast]
 have iff2:(!zaG S s.num (cn:Int))=true↔(cn:Int) ∈ s.gv:=by
  rw[hgv,zbQ]
  unfold zaG
  simp[hc]
 rw[Bool.eq_iff_iff,iff2,iff]
 simp
end Go.Proofs.YtojlkdekdbdpoaaGreat
