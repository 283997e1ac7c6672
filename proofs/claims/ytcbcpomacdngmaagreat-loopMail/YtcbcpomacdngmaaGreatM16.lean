/-
  x
-/
import Derived.Test.YtcbcpomacdngmaaGreatM15
namespace Go.Proofs.YtcbcpomacdngmaaGreat
set_option maxRecDepth 100000
set_option maxHeartbeats 4000000
set_option linter.unusedVariables false
open Go.RowKit
theorem zzE:(Tryz.prog.info? 48).map (fun i=>(i.zero,i.size,i.bytes))=some (some (.slice none 0 0),1,24):=by kernel_rfl
theorem zwp(n:Nat)(hn:n<=24)(w:World):(Instr.makeSlice 242 (.int .i64 (n:Int)) (.int .i64 (n:Int))).run Tryz.prog w=.ok (.slice (some ⟨w.heap.size,0,none⟩) n n) (w.alloc (.cells (madeCells #[.slice none 0 0] n) 48)) :=
 run_make_row' (P:=Tryz.prog) 242 48 (.slice none 0 0) 24 Tryz.underlying242 zzE rfl .i64 .i64 n (by omega) (by omega) w
def zdL(w:World)(D n:Nat)(g:Nat->List Int):Prop :=
 (∀ p,p<n->∃ ga gc,w.cell? ⟨D,p,none⟩=some (.slice ga (g p).length gc)/\zal w ga (g p)/\∀ b o s,ga=some ⟨b,o,s⟩->D<b)/\∀ p,w.frozen? ⟨D,p,none⟩=false
theorem zdL.below{w w' : World}{D n:Nat}{g:Nat->List Int}(h:zdL w D n g)(hg:D<w.heap.size)(E:Below w.heap.size w w'):zdL w' D n g :=
 ⟨fun p J=>by
  obtain⟨ga,gc,h1,F,I⟩:=h.1 p J;exact⟨ga,gc,(E.cell (by exact hg)).trans h1,F.below E,I⟩,fun p=>(E.frozen (by exact hg)).trans (h.2 p)⟩
theorem zkI{w:World}{ga:Option Addr}{l:List Int}(h:zal w ga l){D o:Nat}{v:Value}(F:∀ b o s,ga=some ⟨b,o,s⟩->D<b):zal (w.setCell ⟨D,o,none⟩ v) ga l:=fun i hi=>by
 obtain⟨b,E,e,hc⟩:=h i hi;have:=F b E none e;exact⟨b,E,e,(yB (ys _ _ _ _ (by show b≠D;omega))).trans hc⟩
theorem zdL.set{w:World}{F n:Nat}{g:Nat->List Int}(h:zdL w F n g){pl:Nat}{ga:Option Addr}{gc:Nat}{l:List Int}(U:pl<n)(hi:zal w ga l)(M:∀ b o s,ga=some ⟨b,o,s⟩->F<b) :
  zdL (w.setCell ⟨F,pl,none⟩ (.slice ga l.length gc)) F n (fun p=>if p=pl then l else g p):=by
 refine⟨fun p I=>?_,fun p=>?_⟩
 ·by_cases e:p=pl
  ·subst e;obtain⟨D,E,h1,_⟩:=h.1 p U;simp only[if_true];exact⟨ga,gc,World.cell?_setCell_same _ _ _ h1,zkI hi M,M⟩
  ·simp only[ya e];obtain⟨D,E,h1,T,J⟩:=h.1 p I;exact⟨D,E,(World.cell?_setCell_other _ _ _ _ (by intro O;cases O;exact e rfl)).trans h1,zkI T J,J⟩
 ·rw[World.frozen?_setCell];exact h.2 p
theorem zdL.congr{w:World}{E n:Nat}{g D:Nat->List Int}(h:zdL w E n g)(e:∀ p,p<n->g p=D p):zdL w E n D :=
 ⟨fun p F=>by rw[<- e p F];exact h.1 p F,h.2⟩
theorem zir.far{B:Nat}{L:List Slt}{K:Nat->Value}{v:Value}{w:World}(h:zir B L K v w):∃ a c,v=.slice a L.length c/\∀ i,i<L.length->∃ b,a=some ⟨b,0,none⟩/\B<=b/\w.cell? ⟨b,i*3,none⟩=some (.int .i64 (slt L i).pl)/\w.cell? ⟨b,i*3+1,none⟩=some (.int .i64 (slt L i).num)/\∃ ga gc,w.cell? ⟨b,i*3+2,none⟩=some (.slice ga (slt L i).gv.length gc)/\zal w ga (slt L i).gv/\∀ D o s,ga=some ⟨D,o,s⟩->B<=D:=by
 obtain⟨J,I⟩:=h;have E:=J;obtain⟨hl,h⟩:=J;rcases h with ⟨rfl,h0⟩ |⟨g,cap,M,rfl,T,hg,h1,Z,h3,h4⟩
 ·exact⟨none,0,by rw[h0],fun i hi=>by omega⟩
 ·refine⟨some ⟨g,0,none⟩,cap,rfl,fun i hi=>⟨g,rfl,T,?_⟩⟩
  have hc:∀ j,j<3->w.cell? ⟨g,i*3+j,none⟩=(zgz (slt L i) (K i))[j]?:=fun j U=>by
   rw[<- zjC L K U hi];exact E.cellAt (i*3+j) (by omega)
  obtain⟨sa,sc,F,O⟩:=zfJ (I i hi);refine⟨hc 0 (by omega),hc 1 (by omega),sa,sc,?_,O,fun D o s e=>?_⟩
  ·rw[hc 2 (by omega),F];rfl
  ·have:=I i hi;rw[F,e] at this;exact(this.lt D rfl).1
theorem zoQ(a:Option Addr)(c:Nat)(S:List Nd)(H:Nat)(w:World)(wf:WF S)(M:H<S.length)(E:zah w a S) :
  yL 214 #[.agg #[.slice a S.length c],.int .i64 (H:Int)] w fun e w' => ∃ v K,e=.returned v/\Below w.heap.size w w' /\ zir w.heap.size (zbO S H) K v w' := by
 by_cases D:zbY S H = -1
 ·refine(zrx a c S H w (by have:=wf.small;omega) E D).mono fun e w' ⟨T,O⟩=>?_;have F:zbO S H=[]:=by unfold zbO;rw[yb D]
  refine⟨_,fun _=>.slice none 0 0,T,O,?_⟩;rw[F];exact⟨World.ownsRow_nil _ _ _ _,fun i hi=>by cases hi⟩
 ·obtain⟨r,h1,I,J,_⟩:=zck S H D;exact zry a c S H r w wf wf.big M h1 I J E
theorem zrw{S:List Nd}(wf:WF S)(H:Nat):(zbO S H).length<=24:=by
 unfold zbO;split
 ·simp
 ·rename_i E;obtain⟨r,h1,D,_⟩:=zck S H E;rw[D,yi];have:=zno S H (zbi S S.length r);have:=zfL wf h1;have:=wf.small;omega
theorem zvG(S:List Nd)(h:Nat):zvF S h (zbO S h)=zhl S (h+1):=by funext p;rfl
theorem zyy(w:World)(D o:Nat)(v:Value):Off (fun k=>k=D) w (w.setCell ⟨D,o,none⟩ v):=⟨rfl,rfl,rfl,by simp[World.setCell],fun _ _ E=>ys _ _ _ _ E⟩
theorem zyg(a:Option Addr)(c:Nat)(S:List Nd)(w:World)(wf:WF S)(hS:zah w a S) :
  yL 202 #[.agg #[.slice a S.length c]] w fun e w' => e=.returned (.slice (some ⟨w.heap.size+1,0,none⟩) S.length S.length)/\Below w.heap.size w w' /\ w.heap.size+1<w'.heap.size/\zdL w' (w.heap.size+1) S.length (zhl S S.length):=by
 have hN:=wf.small;have c7:=zwp S.length hN;have DS:Hid (∀ (h:Nat),h<S.length->∀ W,zah W a S->Calls _ _ _ _ _):=fun h hh W hW=>zoQ a c S h W wf hh hW;have HS:Hid (zah w a S):=hS
 have PL:Hid (∀ (h i:Nat),i<(zbO S h).length->∃ k:Nat,(slt (zbO S h) i).pl=k/\k<S.length):=fun h i hi=>by
  obtain⟨r,k,j,_,_,_,e,hk,_⟩:=zdp wf (H:=h) (s:=slt (zbO S h) i) (by rw[zeM hi];exact List.getElem_mem hi);exact⟨k,e,hk⟩
 have FW:Hid (∀ h,(zbO S h).length<=24):=fun h=>zrw wf h;have ND:Hid (∀ h,((zbO S h).map Slt.pl).Nodup):=fun h=>zjj wf;clear hS wf;obtain⟨n,hn⟩:∃ n,S.length=n:=⟨_,rfl⟩;have HN:Hid (S.length=n):=hn;rw[hn] at hN c7 DS PL |-;clear hn
 have G0:Hid (zdL ((w.alloc (.cells #[.slice a n c] 43)).alloc (.cells (madeCells #[.slice none 0 0] n) 48)) (w.heap.size+1) n (zhl S 0)):=by
  refine⟨fun p hp=>⟨none,0,?_,(fun i hi=>absurd hi (yw _)),(fun b o s e=>by cases e)⟩,fun p=>?_⟩
  ·have:=zad (w.alloc (.cells #[.slice a n c] 43)) (madeCells #[.slice none 0 0] n) 48 p (v:=.slice none 0 0) (by simp[madeCells,hp,Nat.mod_one]);show World.cell? _ _=some (.slice none ([]:List Int).length 0);simpa using this
  ·go_simp
 go_enter Tryz.func202,Tryz.ntmps202
 go_wp2_with fail
 go_loopg [14] n (fun g s14 wr=>∃ h:Nat,h<=n/\n-h<=g/\s14=.int .i64 h/\Hid (Below w.heap.size w wr)/\wr.cell? ⟨w.heap.size,0,none⟩=some (.slice a n c)/\w.heap.size+1<wr.heap.size/\Hid (zdL wr (w.heap.size+1) n (zhl S h)))
 case atStart=>exact⟨0,by omega,by omega,rfl,zam _ _ _,by go_simp,by simp,G0⟩
 case round =>
  obtain⟨h,hh,hg,rfl,HB,cs,b0,HG⟩:=hrel;clear G0;by_cases c6:h<n
  ·have c8:(h:Int)<(n:Int):=by omega
   go_wp2_with fail
   refine ye (DS.out h c6 _ (HS.out.below HB.out)) ?_;rintro e w3 ⟨v,K,rfl,hb,hO⟩;obtain⟨qa,qc,hv,O⟩:=hO.far;subst hv;have M:Hid _:=O;have E:=zab cs hb;have e2:=hb.size;have b4:Hid (Below w.heap.size w w3):=HB.out.trans (hb.mono HB.out.size);have b6:Hid (zdL w3 (w.heap.size+1) n (zhl S h)):=HG.out.below b0 hb;have Z:Hid _:=PL.out h;have fw:=FW.out h;have b8:Hid _:=ND.out h;have GA:Hid (zvF S h (zbO S h)=zhl S (h+1)):=zvG S h;clear hb hO O cs HG;generalize zbO S h=L at *;obtain⟨m,hm⟩:∃ z,L.length=z:=⟨_,rfl⟩;have HM:Hid (L.length=m):=hm;rw[hm] at M Z fw |-;clear hm
   go_wp2_with fail
   go_loopg [21] m (fun g s21 w2=>∃ i:Nat,i<=m/\m-i<=g/\s21=.int .i64 i/\Hid (Off (fun k=>k=w.heap.size+1) w3 w2)/\w2.cell? ⟨w.heap.size,0,none⟩=some (.slice a n c)/\w3.heap.size<=w2.heap.size/\Hid (zdL w2 (w.heap.size+1) n (zvF S h (L.take i))))
   case atStart=>exact⟨0,by omega,by omega,rfl,Off.refl _ _,E,yj _,b6⟩
   case round =>
    obtain⟨i,hi,e0,rfl,U,a5,d5,I⟩:=hrel;clear E;by_cases F:i<m
    ·have c9:(i:Int)<(m:Int):=(by omega);obtain⟨b,ea,d9,f0,f1,ga,gc,f2,a8,D⟩:=M.out i F;obtain⟨pl,a6,a9⟩:=Z.out i F;subst ea;rw[a6] at f0;have x0:=(U.out.cell (p:=⟨b,i*3,none⟩) (by exact yd _ _ f0) (by show ¬ b=_;omega)).trans f0;have x1:=(U.out.cell (p:=⟨b,i*3+1,none⟩) (by exact yd _ _ f1) (by show ¬ b=_;omega)).trans f1;have x2:=(U.out.cell (p:=⟨b,i*3+2,none⟩) (by exact yd _ _ f2) (by show ¬ b=_;omega)).trans f2;have d4:(pl:Int)<(n:Int):=by omega
     have b7:Hid (zal wr ga (slt L i).gv):=fun j hj=>by
      obtain⟨b', o', e,hc⟩:=a8 j hj;have:=D b' o' none e;exact⟨b', o', e,(U.out.cell (by exact yd _ _ hc) (by show ¬ b' = _;omega)).trans hc⟩
     have b5:Hid (∀ b o s,ga=some ⟨b,o,s⟩->w.heap.size+1<b):=fun b o s e=>by have:=D b o s e;omega
     have EQ:Hid (∀ p,p<n->(if p=pl then (slt L i).gv else zvF S h (L.take i) p)=zvF S h (L.take (i+1)) p):=fun p hp=>by
      have a7:i<L.length:=(by rw[HM.out];exact F);rw[zsP b8.out a7,<- zeM a7,a6];by_cases e:p=pl
      ·subst e;simp
      ·rw[ya e,ya (by omega)]
     obtain⟨d8,d6,b9,_⟩:=I.out.1 pl a9;have d7:=I.out.2 pl
     have b2:Hid (∀ o1:Obj,zdL ((wr.setCell ⟨w.heap.size+1,pl,none⟩ (.slice ga (slt L i).gv.length gc)).alloc o1) (w.heap.size+1) n (zvF S h (L.take (i+1)))):=fun o1 =>
      ((I.out.set (gc:=gc) a9 b7.out b5.out).congr EQ.out).below (by simp[World.setCell];omega) (zaa _ _)
     have E:∀ v,(wr.setCell ⟨w.heap.size+1,pl,none⟩ v).cell? ⟨w.heap.size,0,none⟩=some (.slice a n c):=fun v=>(yB (ys _ _ _ _ (by show w.heap.size≠w.heap.size+1;omega))).trans a5;have e1:w.heap.size+1<wr.heap.size:=(by omega);have b1:Hid _:=E;clear f0 f1 f2 a8 D E;generalize (slt L i).gv.length=gl at *;generalize (slt L i).num=nu at *
     go_wp2_with fail
     go_roundg (m-(i+1))
     case measure=>omega
     case rel=>exact⟨i+1,by omega,by omega,by go_num,(U.out.trans (zyy wr _ pl _)).trans (Off.of_below (zaa _ _)),zab (b1.out _) (zaa _ _),by simp[World.setCell];omega,b2.out _⟩
    ·have T:i=m:=(by omega);subst T
     have J:Hid (zdL wr (w.heap.size+1) n (zhl S (h+1))):=by
      have h1:=I.out;rw[List.take_of_length_le (by rw[HM.out];omega),GA.out] at h1;exact h1
     have b3:Hid (Below w.heap.size w wr):=b4.out.trans (U.out.below (by omega) (fun k hk=>by have:k=w.heap.size+1:=hk;omega))
     go_wp2_with fail
     go_roundg (n-(h+1))
     case measure=>omega
     case rel=>exact⟨h+1,by omega,by omega,by go_num,b3,a5,by omega,J⟩
  ·have T:h=n:=(by omega);subst T;have J:=HG;rw[<- HN.out] at J;clear HG
   go_wp2_with fail
   go_ret;exact⟨rfl,HB.out,b0,by rw[<- HN.out];exact J.out⟩
theorem zrt(a:Option Addr)(c:Nat)(S:List Nd)(I U p r:Nat)(ka:Option Addr)(kl kc:Nat)(w:World)(hN:S.length<=24)(hr:r<S.length)(M:zbY S p=r)(O:zah w a S)(J:w.cell? ⟨I,0,none⟩=some (.slice a S.length c))(E:∃ b o,a=some ⟨b,o,none⟩/\w.cell? ⟨b,o+r*8+5,none⟩=some (.slice ka kl kc)) :
  yL 203 #[.int .i64 (p:Int),.pointer (some ⟨I,0,none⟩),.pointer (some ⟨U,0,none⟩)] w fun e w' => e=.returned (.slice ka kl kc)/\Below w.heap.size w w' := by
 have d:=zdo a c S (p:Int) w (by omega) O;rw[M] at d;have D:Hid _:=d;obtain⟨b,o,rfl,E⟩:=E;have a6:(r:Int)<(S.length:Int):=by omega
 have a7:((r:Int) == -1)=false:=by simp
 have a8:decide ((r:Int) = -1)=false:=by simp
 clear d O M;generalize S.length=n at *
 go_enter Tryz.func203,Tryz.ntmps203
 go_wp2_with fail
 refine ye D.out ?_;rintro e w1 ⟨rfl,F⟩;have Z:=zab J F;have a5:=zab E F;have T:Hid _:=F;clear F J E
 go_wp2_with fail
 go_ret;exact⟨rfl,T.out⟩
theorem zoP(a:Option Addr)(c:Nat)(S:List Nd)(I F U p:Nat)(ka:Option Addr)(kl kc:Nat)(w:World)(hN:S.length<=24)(hp:p<S.length)(T:zbY S p = -1)(Z:zah w a S)(J:w.cell? ⟨I,0,none⟩=some (.slice a S.length c))(M:w.cell? ⟨F,0,none⟩=some (.slice (some ⟨U,0,none⟩) S.length S.length))(O:w.cell? ⟨U,p,none⟩=some (.slice ka kl kc))(hk:0<kl) :
  yL 203 #[.int .i64 (p:Int),.pointer (some ⟨I,0,none⟩),.pointer (some ⟨F,0,none⟩)] w fun e w' => e=.returned (.slice ka kl kc)/\Below w.heap.size w w' := by
 have d:=zdo a c S (p:Int) w (by omega) Z;rw[T] at d;have D:Hid _:=d;have a9:(p:Int)<(S.length:Int):=by omega
 have a8:(0:Int)<(kl:Int):=by omega
 clear d Z T;generalize S.length=n at *
 go_enter Tryz.func203,Tryz.ntmps203
 go_wp2_with fail
 refine ye D.out ?_;rintro e w1 ⟨rfl,E⟩;have a5:=zab J E;have a6:=zab M E;have a7:=zab O E;have HB:Hid _:=E;clear E J O M
 go_wp2_with fail
 go_ret;exact⟨rfl,HB.out⟩
theorem zrs(a:Option Addr)(c:Nat)(S:List Nd)(J I Z p:Nat)(ka ga:Option Addr)(kl kc gc:Nat)(w:World)(hN:S.length<=24)(hp:p<S.length)(U:zbY S p = -1)(hS:zah w a S)(M:w.cell? ⟨J,0,none⟩=some (.slice a S.length c))(O:w.cell? ⟨I,0,none⟩=some (.slice (some ⟨Z,0,none⟩) S.length S.length))(T:w.cell? ⟨Z,p,none⟩=some (.slice ga 0 gc))(F:∃ b o,a=some ⟨b,o,none⟩/\w.cell? ⟨b,o+p*8+5,none⟩=some (.slice ka kl kc)) :
  yL 203 #[.int .i64 (p:Int),.pointer (some ⟨J,0,none⟩),.pointer (some ⟨I,0,none⟩)] w fun e w' => e=.returned (.slice ka kl kc)/\Below w.heap.size w w' := by
 have d:=zdo a c S (p:Int) w (by omega) hS;rw[U] at d;have D:Hid _:=d;obtain⟨b,o,rfl,F⟩:=F;have a9:(p:Int)<(S.length:Int):=by omega
 clear d hS U;generalize S.length=n at *
 go_enter Tryz.func203,Tryz.ntmps203
 go_wp2_with fail
 refine ye D.out ?_;rintro e w1 ⟨rfl,E⟩;have a5:=zab M E;have a6:=zab O E;have a7:=zab T E;have a8:=zab F E;have HB:Hid _:=E;clear E M T O F
 go_wp2_with fail
 go_ret;exact⟨rfl,HB.out⟩
def ziV(S:List Nd)(k:Nat):List Int:=zbV (zbZ S (zhl S S.length)) (zzt S) k
theorem zuv(a:Option Addr)(c:Nat)(S:List Nd)(F E T:Nat)(w:World)(wf:WF S)(I:zah w a S)(U:w.cell? ⟨F,0,none⟩=some (.slice a S.length c))(cg:w.cell? ⟨E,0,none⟩=some (.slice (some ⟨T,0,none⟩) S.length S.length))(hG:zdL w T S.length (zhl S S.length))(p:Nat)(J:p<S.length) :
  ∃ ka kc,(zbZ S (zhl S S.length) p).length<=9223372036854775807/\(∀ w1,Below w.heap.size w w1->zal w1 ka (zbZ S (zhl S S.length) p))/\∀ w1,Below w.heap.size w w1->yL 203 (#[.int .i64 (p:Int)] ++ #[.pointer (some ⟨F,0,none⟩),.pointer (some ⟨E,0,none⟩)]) w1 fun e w2=>e=.returned (.slice ka (zbZ S (zhl S S.length) p).length kc)/\Below w1.heap.size w1 w2:=by
 have hN:=wf.small;unfold zbZ;by_cases O:zbY S p = -1
 ·rw[ya (by simpa using O)];obtain⟨ga,gc,g1,g2,_⟩:=hG.1 p J;by_cases hg:zhl S S.length p=[]
  ·rw[ya (by simpa using hg)];rw[hg] at g1;obtain⟨b,o,Z,_,_,_,_,_,⟨ka,kc,c5,D⟩,_⟩:=I p J;exact⟨ka,kc,by have:=wf.kids_small J;omega,fun w1 h1=>D.below h1,fun w1 h1=>zrs a c S F E T p ka ga _ kc gc w1 hN J O (I.below h1) (zab U h1) (zab cg h1) (zab g1 h1) ⟨b,o,Z,zab c5 h1⟩⟩
  ·rw[yb (by simpa using hg)];have M:0<(zhl S S.length p).length:=List.length_pos_iff.2 hg;exact⟨ga,gc,by have:=(zsQ wf (yj S.length) (p:=p)).1;omega,fun w1 h1=>g2.below h1,fun w1 h1=>zoP a c S F E T p ga _ gc w1 hN J O (I.below h1) (zab U h1) (zab cg h1) (zab g1 h1) M⟩
 ·rw[yb (by simpa using O)];obtain⟨r,h1,h2,_⟩:=zck S p O;rw[h2,yi];obtain⟨b,o,Z,_,_,_,_,_,⟨ka,kc,c5,D⟩,_⟩:=I r h1;exact⟨ka,kc,by have:=wf.kids_small h1;omega,fun w1 h1=>D.below h1,fun w1 hb=>zrt a c S F E p r ka _ kc w1 hN h1 h2 (I.below hb) (zab U hb) ⟨b,o,Z,zab c5 hb⟩⟩
theorem zvC(a:Option Addr)(c:Nat)(S:List Nd)(p u E:Int)(w:World)(Z:S.length<=9223372036854775807)(J:Big S)(O:zah w a S)(M:zaC S p u=E)(F:E≠0) :
  yL 190 #[.agg #[.slice a S.length c],.agg #[.int .i64 p,.int .i64 u]] w fun e w' => e=.returned (.tuple #[.slice none 0 0,.int .i64 E])/\Below w.heap.size w w' := by
 have D:Hid (∀ W,zah W a S->Calls _ _ _ _ _):=fun W hW=>ziB a c S p u E W Z J hW M F;have U:Hid (zah w a S):=O;have e1:(E == 0)=false:=beq_eq_false_iff_ne.2 F;have e2:decide (E=0)=false:=yE F;clear O M J;generalize S.length=n at *
 go_enter Tryz.func190,Tryz.ntmps190
 go_wp2_with fail
 refine ye (D.out _ (U.out.below (zam _ _ _))) ?_;rintro e w1 ⟨rfl,T⟩;have I:Hid (Below w.heap.size w w1):=(zam w _ _).trans (T.mono (by simp;omega));clear T
 go_wp2_with fail
 exact yv (v:=.tuple #[.slice none 0 0,.int .i64 E]) (by simp[results,Tryz.results190,go_sem]) rfl ⟨rfl,I.out.trans ((zaa _ _).mono I.out.size)⟩
theorem zvA{S:List Nd}(wf:WF S){k:Nat}(D:k<S.length):(ziV S k).length<=S.length:=ztQ wf (zxn wf) D (zzt S)
theorem zuM(a:Option Addr)(c:Nat)(S:List Nd)(k E D F:Nat)(w:World)(wf:WF S)(I:k<S.length)(Z:zah w a S)(J:w.cell? ⟨E,0,none⟩=some (.slice a S.length c))(M:w.cell? ⟨D,0,none⟩=some (.slice (some ⟨F,0,none⟩) S.length S.length))(U:zdL w F S.length (zhl S S.length)) :
  yL 204 #[.int .i64 (k:Int),.func (.func 203) #[] #[.pointer (some ⟨E,0,none⟩),.pointer (some ⟨D,0,none⟩)]] w fun e w' => ∃ sa cap,e=.returned (.slice sa (ziV S k).length cap)/\Below w.heap.size w w' /\ zal w' sa (ziV S k):=by
 have hN:=wf.small;have hl:=zvA wf I;unfold ziV at hl |-;refine(zpV (zbZ S (zhl S S.length)) S.length 203 #[.pointer (some ⟨E,0,none⟩),.pointer (some ⟨D,0,none⟩)] k (zzt S) w (yJ Tryz.func203 (by kernel_rfl) rfl) (fun p hp=>zuv a c S E D F w wf Z J M U p hp) I (zls wf (zxn wf) I) (by omega)).mono fun e w' ⟨sa,cap,h1,O,T,_⟩=>⟨sa,cap,h1,O,T⟩
theorem zyc(a:Option Addr)(c:Nat)(S:List Nd)(k:Nat)(u:Int)(w:World)(wf:WF S)(hS:zah w a S)(hk:k<S.length)(hE:zaC S k u=0) :
  yL 190 #[.agg #[.slice a S.length c],.agg #[.int .i64 (k:Int),.int .i64 u]] w fun e w' => ∃ sa cap,e=.returned (.tuple #[.slice sa (ziV S k).length cap,.int .i64 0])/\Below w.heap.size w w' /\ zal w' sa (ziV S k):=by
 have hN:=wf.small;have D:Hid (∀ W,zah W a S->Calls _ _ _ _ _):=fun W hW=>find_ok a c S k u W (by omega) wf.big hW hk hE (by have:=wf.kids_small hk;omega);have DG:Hid (∀ W,zah W a S->Calls _ _ _ _ _):=fun W hW=>zyg a c S W wf hW;have Z:Hid (∀ bs bg M W,zah W a S->World.cell? W ⟨bs,0,none⟩=some (.slice a S.length c)->World.cell? W ⟨bg,0,none⟩=some (.slice (some ⟨M,0,none⟩) S.length S.length)->zdL W M S.length (zhl S S.length)->Calls _ _ _ _ _):=fun bs bg M W h1 h2 h3 h4=>zuM a c S k bs bg M W wf hk h1 h2 h3 h4;have HS:Hid (zah w a S):=hS;clear hS hE wf;generalize ziV S k=F at *;generalize nd S k=x at *;obtain⟨xu,xn,xt,xm,xp,a6,xh,xc⟩:=x;generalize zhl S S.length=G at *;generalize S.length=n at *;dsimp only at D;obtain⟨fl,O⟩:∃ z,F.length=z:=⟨_,rfl⟩;rw[O] at Z |-;obtain⟨xl,U⟩:∃ z,a6.length=z:=⟨_,rfl⟩;rw[U] at D;clear O U
 go_enter Tryz.func190,Tryz.ntmps190
 go_wp2_with fail
 refine ye (D.out _ (HS.out.below (zam _ _ _))) ?_;rintro e w1 ⟨g,rfl,E,_⟩;have l0:=zab (zaM w #[.slice a n c] 43 0 (.cells #[.int .i64 (k:Int),.int .i64 u] 61) rfl) E;have l1:=zab (zaN w #[.int .i64 (k:Int),.int .i64 u] 61 0 (.cells #[.slice a n c] 43) rfl) E;have q0:=yd _ _ l0;have q1:=yd _ _ l1;have J:Hid (Below w.heap.size w w1):=(zam w _ _).trans (E.mono (by simp;omega));clear E D
 go_wp2_with fail
 refine ye (DG.out _ (HS.out.below (J.out.trans ((zaa _ _).mono J.out.size)))) ?_;rintro e w2 ⟨rfl,E,T,hG⟩;have m0:=zab (zab l0 (zaa _ _)) E;have m1:=zab (zab l1 (zaa _ _)) E;have r0:=yd _ _ m0;have r1:=yd _ _ m1;have I:Hid (Below w.heap.size w w2):=(J.out.trans ((zaa _ _).mono J.out.size)).trans (E.mono (by have:=J.out.size;simp;omega));have HG:Hid (zdL w2 _ n G):=hG;clear E l0 l1 q0 q1 DG hG;simp only[yr] at HG T |-;generalize w1.heap.size+1+1=M at *
 go_wp2_with fail
 refine ye (Z.out _ _ _ _ (HS.out.below (I.out.trans ((zaa _ _).mono I.out.size))) (zab m0 (zaa _ _)) (zad w2 _ _ 0 rfl) (zdL.below HG.out T (zaa _ _))) ?_;rintro e w3 ⟨sa,cap,rfl,E,hI⟩;have a5:Hid (Below w.heap.size w w3):=(I.out.trans ((zaa _ _).mono I.out.size)).trans (E.mono (by have:=I.out.size;simp;omega));have HI:Hid _:=hI;clear E hI Z HG m0 m1
 go_wp2_with fail
 exact yv (v:=.tuple #[.slice sa fl cap,.int .i64 0]) (by simp[results,Tryz.results190,go_sem]) rfl ⟨sa,cap,rfl,a5.out,HI.out⟩
structure Rl where
 s:List Nd
 hs:List (Int × Int)
 i:List Cl
 t:List Int
def zbL:Rl:=⟨[],[],[],[]⟩
structure Ac where
 k:Int
 a:Int
 b:Int
 c:Int
 n:Int
structure Rs where
 e:Int
 r:Rl
 o:Int
theorem zcC{S:List Nd}{p u:Int}(h:zaC S p u=0):WF S/\∃ k:Nat,p=k/\k<S.length/\(nd S k).u=true/\(nd S k).n=u :=
 ⟨(zfz S).1 (zfF h).1,holds_zero (zfF h).2⟩
theorem zuF{S:List Nd}{hs:List (Int × Int)}(h:zbd S hs=0):WF S/\∀ x ∈ hs,∃ k:Nat,x.1=k/\k<S.length/\(nd S k).u=true/\(nd S k).n=x.2:=by
 unfold zbd at h
 split at h
 ·rename_i E;refine⟨(zfz S).1 E,?_⟩
  induction hs with
  | nil=>intro x D;cases D
  | cons y r F =>
   unfold zfd at h
   split at h
   ·rename_i h0;intro x D;rcases List.mem_cons.1 D with rfl|D
    ·exact holds_zero h0
    ·exact F h x D
   ·exact absurd h (by assumption)
 ·exact absurd h (by assumption)
def zfR(S:List Nd):Nat:=S.findIdx zcn
theorem zvx{S:List Nd}{k:Nat}(D:k<S.length)(h1:zcn (nd S k)=true)(E:∀ i,i<k->zcn (nd S i)=false):zfR S=k:=by
 unfold zfR;rw[List.findIdx_eq D];refine⟨by rw[<- zbq D];exact h1,fun j F=>?_⟩;have:=E j F;rw[zbq (by omega)] at this;exact this
theorem zvw{S:List Nd}(h:S.any zcn=true):zfR S<S.length/\zcn (nd S (zfR S))=true/\∀ i,i<zfR S->zcn (nd S i)=false:=by
 obtain⟨k,E,h1,D⟩:=zqu h;rw[zvx E h1 D];exact⟨E,h1,D⟩
def mkS(S:List Nd)(t:Int):List Nd:=S.set (zfR S) (zbQ (nd S (zfR S)) t)
def mkH(S:List Nd):Int × Int:=((zfR S:Int),(nd S (zfR S)).n+1)
theorem zlF{S:List Nd}{t:Int}(h:zfl S t=0):WF S/\(0<=t/\t<=99)/\zfR S<S.length/\zcn (nd S (zfR S))=true/\∀ i,i<zfR S->zcn (nd S i)=false:=by
 unfold zfl at h;by_cases hc:zbr S=0
 ·rw[yb hc] at h;by_cases D:0<=t/\t<=99
  ·rw[yb D] at h
   cases hq:S.any zcn with
   | true=>exact⟨(zfz S).1 hc,D,zvw hq⟩
   | false=>rw[hq,ya (by simp)] at h;omega
  ·rw[ya D] at h;omega
 ·rw[ya hc] at h;exact absurd h hc
instance (S:List Nd) (k:Nat):Decidable (zfX S k):=by unfold zfX;infer_instance
def zsM(S:List Nd)(p u:Int):Int:=if zaC S p u=0 then (if zfX S p.toNat then 0 else 6) else zaC S p u
def zzW(S:List Nd)(p u:Int):Int:=if zaC S p u=0 then (if (nd S p.toNat).p = -1 then 6 else 0) else zaC S p u
def zxr(S:List Nd)(p u n:Int):Int:=if zaC S p u=0 then (if -1000000<=n/\n<=1000000 then 0 else 2) else zaC S p u
def zxP(S:List Nd)(p u:Int)(q:List Tst):Int:=if zaC S p u=0 then zfw q else zaC S p u
def zjS(S:List Nd)(p u q v:Int)(hs:List (Int × Int)):Int :=
 if zbd S ((p,u) ::(q,v) :: hs)=0 then (if ziU S q.toNat p.toNat=true then (match hs with | []=>0|h :: _=>if (nd S h.1.toNat).p=p then 0 else 6) else 6) else zbd S ((p,u) ::(q,v) :: hs)
def zpm(S:List Nd)(p q:Int)(hs:List (Int × Int)):List Nd :=
 match hs with
 | []=>zbo (leaveG S q.toNat) p.toNat q.toNat (nd (leaveG S q.toNat) p.toNat).ks.length
 | h :: _=>if h.1=q then S else zbo (leaveG S q.toNat) p.toNat q.toNat (idx (nd (leaveG S q.toNat) p.toNat).ks h.1).toNat
def zvL(S:List Nd)(p u:Int):Int:=if zaC S p u=0 then (if zfj S p=true then 6 else zfl S 0) else zaC S p u
def zzB(S:List Nd)(p:Int)(c:Bool):List Nd:=S.set (zfR S) (zbS (nd S (zfR S)) p.toNat c)
def upE(S:List Nd)(p u:Int):Int:=if zaC S p u=0 then (if (nd S p.toNat).p = -1 then 6 else 0) else zaC S p u
def upH(S:List Nd)(p:Int):Int × Int:=((nd S p.toNat).p,(nd S (nd S p.toNat).p.toNat).n)
def zzb(S:List Nd)(p n:Int):List Nd:=S.set p.toNat { nd S p.toNat with m:=n }
def ans(E:Int)(R:Rl)(o:Int):Rs:=if E=0 then ⟨0,R,o⟩ else ⟨E,zbL,0⟩
def bad(E:Int):Rs:=⟨E,zbL,0⟩
theorem zeT{E:Int}{R:Rl}{o:Int}(h:(ans E R o).e=0):E=0/\ans E R o=⟨0,R,o⟩:=by
 by_cases D:E=0
 ·exact⟨D,yb D⟩
 ·unfold ans at h;rw[ya D] at h;exact absurd h D
def isH(k:Int):Prop:=0<=k/\k<=15
instance (k:Int):Decidable (isH k):=by unfold isH;infer_instance
def hd(R:Rl)(k:Int):Int × Int:=R.hs.getD k.toNat (0,0)
def zaE(R:Rl):Int:=if zbr R.s=0 then (if R.hs.length=16 then (if zaz R.i=0 then (if 4800<R.t.length then 1 else 0) else zaz R.i) else 3) else zbr R.s
def zrU(R:Rl)(a n:Int):Rs:=ans (zfl R.s n) ⟨mkS R.s n,R.hs.set a.toNat (mkH R.s),R.i,R.t⟩ 0
def zxE(R:Rl)(h:Int × Int):Rs:=ans (zsM R.s h.1 h.2) ⟨R.s.set h.1.toNat (zcV (nd R.s h.1.toNat)),R.hs,R.i,R.t⟩ 0
def znF(R:Rl)(h:Int × Int):Rs:=ans (zzW R.s h.1 h.2) ⟨leaveG R.s h.1.toNat,R.hs,R.i,R.t⟩ 0
def zzf(R:Rl)(h:Int × Int):Rs:=ans (zaC R.s h.1 h.2) R (nd R.s h.1.toNat).m
def zxg(R:Rl)(h:Int × Int)(n:Int):Rs:=ans (zxr R.s h.1 h.2 n) ⟨zzb R.s h.1 n,R.hs,R.i,R.t⟩ 0
def zvd(R:Rl)(h:Int × Int)(n:Int):Rs:=if 0<=n/\n<R.i.length then zxg R h (cl R.i n.toNat).n else bad 4
def zrS(R:Rl)(h:Int × Int)(t m:Int):Rs:=ans (zxP R.s h.1 h.2 [⟨t,m,false⟩]) R (zgR R.s h.1.toNat [⟨t,m,false⟩]).length
def zxD(R:Rl)(h:Int × Int):Rs:=ans (zaC R.s h.1 h.2) R (ziV R.s h.1.toNat).length
def zdN(R:Rl)(h g:Int × Int)(hs:List (Int × Int)):Rs:=ans (zjS R.s h.1 h.2 g.1 g.2 hs) ⟨zpm R.s h.1 g.1 hs,R.hs,R.i,R.t⟩ 0
def zrT(R:Rl)(b:Int)(h:Int × Int)(c:Bool):Rs:=ans (zvL R.s h.1 h.2) ⟨zzB R.s h.1 c,R.hs.set b.toNat (mkH R.s),R.i,R.t⟩ 0
def aUp(R:Rl)(b:Int)(h:Int × Int):Rs:=ans (upE R.s h.1 h.2) ⟨R.s,R.hs.set b.toNat (upH R.s h.1),R.i,R.t⟩ 0
def doG(R:Rl)(x:Ac):Rs :=
 if isH x.a then
  if x.k=1 then zrU R x.a x.n
  else if x.k=2 then zxE R (hd R x.a)
  else if x.k=4 then znF R (hd R x.a)
  else if x.k=6 then zzf R (hd R x.a)
  else if x.k=5 then zxg R (hd R x.a) x.n
  else if x.k=11 then zvd R (hd R x.a) x.n
  else if x.k=14 then zrS R (hd R x.a) x.b x.n
  else if x.k=15 then zxD R (hd R x.a)
  else if x.k=3\/x.k=7\/x.k=8 then
   if isH x.b then
    if x.k=7 then zrT R x.b (hd R x.a) (decide (x.n=1))
    else if x.k=8 then aUp R x.b (hd R x.a)
    else if x.c<0 then zdN R (hd R x.a) (hd R x.b) []
    else if isH x.c then zdN R (hd R x.a) (hd R x.b) [hd R x.c] else bad 4
   else bad 4
  else bad 3
 else bad 4
def doF(R:Rl)(x:Ac):Rs:=if zaE R=0 then doG R x else bad (zaE R)
theorem WF.mark{S:List Nd}(h:WF S){k:Nat}{n:Int}(E:k<S.length)(F:(nd S k).u=true)(hn:-1000000<=n/\n<=1000000):WF (S.set k { nd S k with m:=n }):=by
 refine h.like (by simp) (fun i hi=>?_) (fun i hi=>?_) (fun i hi D=>?_)
 ·rw[zcR S k i _ E];split
  ·rename_i e;subst e;obtain⟨r1,r2,r3⟩:=zbj (h.node i hi);obtain⟨I,J,M⟩:=zeI r2;refine zgt ?_ (zeH I J M) ?_
   ·unfold zcT at r1 |-;simp only[Bool.and_eq_true,decide_eq_true_eq] at r1 |-;exact⟨r1.1,r1.2.1,hn⟩
   ·unfold zec at r3 |-;dsimp only;rw[yb F] at r3 |-;exact r3
  ·exact h.node i hi
 ·rw[zcR S k i _ E];split
  ·rename_i e;subst e;exact⟨rfl,rfl,rfl⟩
  ·exact⟨rfl,rfl,rfl⟩
 ·rw[zcR S k i _ E];split
  ·exact Or.inl F
  ·exact Or.inl D
def zis(x y:Nd):Prop:=y.u=x.u/\y.n=x.n/\y.t=x.t/\y.m=x.m
def zAm(x y:Nd):Prop:=x.u=false/\y.u=true/\y.n=x.n+1/\y.m=x.m
def zAn(x y:Nd):Prop:=x.u=true/\y.u=false/\y.n=x.n
def zxf(x y:Nd):Prop:=y.u=x.u/\y.n=x.n/\y.t=x.t
def zyU(S T:List Nd):Prop:=T.length=S.length/\∃ q,∀ i,i<S.length->zis (nd S i) (nd T i)\/(i=q/\(zAm (nd S i) (nd T i)\/zAn (nd S i) (nd T i)))
theorem zis.rfl{x:Nd}:zis x x:=⟨Eq.refl _,Eq.refl _,Eq.refl _,Eq.refl _⟩
theorem zjg{S T:List Nd}(hl:T.length=S.length)(h:∀ i,i<S.length->zis (nd S i) (nd T i)):zyU S T:=⟨hl,0,fun i hi=>Or.inl (h i hi)⟩
theorem zlI{S:List Nd}{k:Nat}{y:Nd}(D:k<S.length)(h:zAm (nd S k) y\/zAn (nd S k) y):zyU S (S.set k y):=⟨by simp,k,fun i hi=>by
 rw[zcR S k i _ D];split
 ·rename_i e;subst e;exact Or.inr ⟨rfl,h⟩
 ·exact Or.inl zis.rfl⟩
theorem zgW{S:List Nd}{p u q v:Int}{hs:List (Int × Int)}(h:zjS S p u q v hs=0):WF (zpm S p q hs)/\zyU S (zpm S p q hs):=by
 unfold zjS at h;by_cases h0:zbd S ((p,u) ::(q,v) :: hs)=0
 ·rw[yb h0] at h;obtain⟨wf,O⟩:=zuF h0;obtain⟨pa,J,hpa,hpu,I⟩:=O (p,u) (by simp);obtain⟨D,M,hch,hcu,E⟩:=O (q,v) (by simp);dsimp only at J M I E;subst J;subst M;rw[yi,yi] at h;by_cases F:ziU S D pa=true
  ·rw[yb F] at h;have pt:zyW S pa D:=⟨wf,hpa,hch,hpu,hcu,F⟩
   have key:∀ at', WF (zbo (leaveG S D) pa D at')/\zyU S (zbo (leaveG S D) pa D at'):=fun at' => ⟨pt.insert at', zjg (by rw[zbt,zbl]) (fun i hi=>by
    obtain⟨a1,a2,a3,a4,T,a6⟩:=zfK S D i;obtain⟨U,Z,b3,b4,b5,b6⟩:=zeB (leaveG S D) pa D at' i;exact⟨U.trans a1,Z.trans a2,b4.trans a4,b5.trans T⟩)⟩
   unfold zpm;rw[yi,yi]
   match hs with
   | []=>exact key _
   | hh :: r =>
    dsimp only;split
    ·exact⟨wf,zjg rfl (fun i hi=>zis.rfl)⟩
    ·exact key _
  ·rw[ya F] at h;omega
 ·rw[ya h0] at h;exact absurd h h0
structure Kept (R:Rl) (x:Ac) (Q:Rl) (o:Int):Prop where
 a:isH x.a
 wf:WF Q.s
 len:Q.s.length=R.s.length
 hlen:Q.hs.length=R.hs.length
 inn:Q.i=R.i
 tld:Q.t=R.t
 told:o≠0->x.k=6\/x.k=14\/x.k=15
 same:x.k=6\/x.k=14\/x.k=15->Q=R
 node:∃ q,∀ i,i<R.s.length->zis (nd R.s i) (nd Q.s i)\/(i=q/\(zAm (nd R.s i) (nd Q.s i)\/zAn (nd R.s i) (nd Q.s i)\/zxf (nd R.s i) (nd Q.s i)))
 hand:∃ q,∀ i,i≠q->Q.hs.getD i (0,0)=R.hs.getD i (0,0)
 mark:x.k=5\/x.k=11->∃ k:Nat,(hd R x.a).1=k/\k<R.s.length/\(nd R.s k).u=true/\(nd R.s k).n=(hd R x.a).2/\(x.k=11->0<=x.n/\x.n<R.i.length)/\Q.s=R.s.set k { nd R.s k with m:=if x.k=11 then (cl R.i x.n.toNat).n else x.n }/\Q.hs=R.hs
 mild:x.k≠5->x.k≠11->zyU R.s Q.s
theorem zgT{α:Type}(l:List α)(k i:Nat)(v d:α)(h:i≠k):(l.set k v).getD i d=l.getD i d:=by
 simp only[List.getD_eq_getElem?_getD,List.getElem?_set_ne (Ne.symm h)]
theorem Kept.mildly{R:Rl}{x:Ac}{T:List Nd}(ha:isH x.a)(wf:WF T)(D:zyU R.s T)(I:x.k≠6/\x.k≠14/\x.k≠15)(F:x.k≠5/\x.k≠11)(H:List (Int × Int))(hl:H.length=R.hs.length)(E:∃ q,∀ i,i≠q->H.getD i (0,0)=R.hs.getD i (0,0)):Kept R x ⟨T,H,R.i,R.t⟩ 0 :=
 {a:=ha,wf:=wf,len:=D.1,hlen:=hl,inn:=rfl,tld:=rfl,told:=fun h=>absurd rfl h,same:=fun h=>(by omega),
  node:=by
   obtain⟨_,q,h⟩:=D;exact⟨q,fun i hi=>(h i hi).imp id (fun⟨e,hh⟩=>⟨e,hh.elim Or.inl (fun h=>Or.inr (Or.inl h))⟩)⟩
  hand:=E,mark:=fun h=>(by omega),mild:=fun _ _=>D }
theorem Kept.asked{R:Rl}{x:Ac}{o:Int}(ha:isH x.a)(wf:WF R.s)(D:x.k=6\/x.k=14\/x.k=15):Kept R x R o :=
 {a:=ha,wf:=wf,len:=rfl,hlen:=rfl,inn:=rfl,tld:=rfl,told:=fun _=>D,same:=fun _=>rfl,
  node:=⟨0,fun i hi=>Or.inl zis.rfl⟩,hand:=⟨0,fun i hi=>rfl⟩,mark:=fun h=>(by omega),mild:=fun _ _=>zjg rfl (fun i hi=>zis.rfl) }
theorem Kept.marked{R:Rl}{x:Ac}{n:Int}(ha:isH x.a)(E:zxr R.s (hd R x.a).1 (hd R x.a).2 n=0)(U:x.k=5\/x.k=11)(hn:n=if x.k=11 then (cl R.i x.n.toNat).n else x.n)(hi:x.k=11->0<=x.n/\x.n<R.i.length):Kept R x ⟨zzb R.s (hd R x.a).1 n,R.hs,R.i,R.t⟩ 0:=by
 unfold zxr at E;by_cases F:zaC R.s (hd R x.a).1 (hd R x.a).2=0
 ·rw[yb F] at E;by_cases J:-1000000<=n/\n<=1000000
  ·obtain⟨wf,k,e,D,M,I⟩:=zcC F;have O:zzb R.s (hd R x.a).1 n=R.s.set k { nd R.s k with m:=n }:=(by unfold zzb;rw[e,yi]);rw[O]
   exact
    {a:=ha,wf:=wf.mark D M J,len:=by simp,hlen:=rfl,inn:=rfl,tld:=rfl,told:=fun h=>absurd rfl h,same:=fun h=>(by omega),
     node:=⟨k,fun i hi=>by
      show zis _ (nd (R.s.set k _) i)\/(i=k/\(zAm _ (nd (R.s.set k _) i)\/zAn _ (nd (R.s.set k _) i)\/zxf _ (nd (R.s.set k _) i)));rw[zcR R.s k i _ D];split
      ·rename_i e;subst e;exact Or.inr ⟨rfl,Or.inr (Or.inr ⟨rfl,rfl,rfl⟩)⟩
      ·exact Or.inl zis.rfl⟩
     hand:=⟨0,fun i hi=>rfl⟩,mark:=fun _=>⟨k,e,D,M,I,hi,by rw[<- hn],rfl⟩,mild:=fun h1 T=>by omega }
  ·rw[ya J] at E;omega
 ·rw[ya F] at E;exact absurd E F
theorem zay{R:Rl}(h:zaE R=0):WF R.s/\R.hs.length=16/\zaz R.i=0/\R.t.length<=4800:=by
 unfold zaE at h;by_cases h1:zbr R.s=0
 ·rw[yb h1] at h;by_cases E:R.hs.length=16
  ·rw[yb E] at h;by_cases D:zaz R.i=0
   ·rw[yb D] at h;by_cases F:4800<R.t.length
    ·rw[yb F] at h;omega
    ·exact⟨(zfz _).1 h1,E,D,by omega⟩
   ·rw[ya D] at h;exact absurd h D
  ·rw[ya E] at h;omega
 ·rw[ya h1] at h;exact absurd h h1
theorem zeo{R:Rl}(h1:WF R.s)(D:R.hs.length=16)(E:zaz R.i=0)(F:R.t.length<=4800):zaE R=0:=by
 unfold zaE;rw[yb ((zfz _).2 h1),yb D,yb E,ya (by omega)]
theorem zvs{R:Rl}{x:Ac}(hc:zaE R=0)(h:(doG R x).e=0):Kept R x (doG R x).r (doG R x).o:=by
 obtain⟨wf,a8,_,_⟩:=zay hc;have same:∃ q,∀ i,i≠q->R.hs.getD i (0,0)=R.hs.getD i (0,0):=⟨0,fun i _=>rfl⟩;have one:∀ (k:Nat) v,∃ q,∀ i,i≠q->(R.hs.set k v).getD i (0,0)=R.hs.getD i (0,0):=fun k v=>⟨k,fun i hi=>zgT _ _ _ _ _ hi⟩;unfold doG at h |-;by_cases ha:isH x.a
 ·rw[yb ha] at h |-;by_cases k1:x.k=1
  ·rw[yb k1] at h |-;unfold zrU at h |-;obtain⟨D,F⟩:=zeT h;rw[F];obtain⟨_,ht,E,I,_⟩:=zlF D;have hp:=zfG I;exact Kept.mildly ha (wf.make E I ht.1 ht.2) (zlI E (Or.inl ⟨hp.1,rfl,rfl,rfl⟩)) (by omega) (by omega) _ (by simp) (one _ _)
  rw[ya k1] at h |-;by_cases k2:x.k=2
  ·rw[yb k2] at h |-;unfold zxE at h |-;obtain⟨D,F⟩:=zeT h;rw[F];unfold zsM at D;by_cases E:zaC R.s (hd R x.a).1 (hd R x.a).2=0
   ·rw[yb E] at D;by_cases hl:zfX R.s (hd R x.a).1.toNat
    ·obtain⟨_,k,e,M,hu,U⟩:=zcC E;rw[e,yi] at hl |-;exact Kept.mildly ha (wf.free M hl) (zlI M (Or.inr ⟨hu,rfl,rfl⟩)) (by omega) (by omega) _ rfl same
    ·rw[ya hl] at D;omega
   ·rw[ya E] at D;exact absurd D E
  rw[ya k2] at h |-;by_cases k4:x.k=4
  ·rw[yb k4] at h |-;unfold znF at h |-;obtain⟨D,F⟩:=zeT h;rw[F];unfold zzW at D;by_cases E:zaC R.s (hd R x.a).1 (hd R x.a).2=0
   ·obtain⟨_,k,e,M,hu,U⟩:=zcC E;rw[e,yi];exact Kept.mildly ha (wf.leaveG M) (zjg (zbl _ _) (fun i hi=>by obtain⟨a1,a2,a3,a4,a5,a6⟩:=zfK R.s k i;exact⟨a1,a2,a4,a5⟩)) (by omega) (by omega) _ rfl same
   ·rw[ya E] at D;exact absurd D E
  rw[ya k4] at h |-;by_cases k6:x.k=6
  ·rw[yb k6] at h |-;unfold zzf at h |-;rw[(zeT h).2];exact Kept.asked ha wf (by omega)
  rw[ya k6] at h |-;by_cases k5:x.k=5
  ·rw[yb k5] at h |-;unfold zxg at h |-;obtain⟨D,F⟩:=zeT h;rw[F];exact Kept.marked ha D (Or.inl k5) (by rw[ya (by omega)]) (fun h=>by omega)
  rw[ya k5] at h |-;by_cases J:x.k=11
  ·rw[yb J] at h |-;unfold zvd at h |-;by_cases hn:0<=x.n/\x.n<R.i.length
   ·rw[yb hn] at h |-;unfold zxg at h |-;obtain⟨D,F⟩:=zeT h;rw[F];exact Kept.marked ha D (Or.inr J) (by rw[yb J]) (fun _=>hn)
   ·rw[ya hn] at h;exact absurd h (by decide)
  rw[ya J] at h |-;by_cases Z:x.k=14
  ·rw[yb Z] at h |-;unfold zrS at h |-;rw[(zeT h).2];exact Kept.asked ha wf (by omega)
  rw[ya Z] at h |-;by_cases a7:x.k=15
  ·rw[yb a7] at h |-;unfold zxD at h |-;rw[(zeT h).2];exact Kept.asked ha wf (by omega)
  rw[ya a7] at h |-;by_cases kk:x.k=3\/x.k=7\/x.k=8
  ·rw[yb kk] at h |-;by_cases hb:isH x.b
   ·rw[yb hb] at h |-;by_cases k7:x.k=7
    ·rw[yb k7] at h |-;unfold zrT at h |-;obtain⟨D,F⟩:=zeT h;rw[F];unfold zvL at D;by_cases E:zaC R.s (hd R x.a).1 (hd R x.a).2=0
     ·rw[yb E] at D;by_cases hl:zfj R.s (hd R x.a).1=true
      ·rw[yb hl] at D;omega
      ·rw[ya hl] at D;obtain⟨_,k,e,M,hu,U⟩:=zcC E;obtain⟨_,ht,E,I,_⟩:=zlF D;have hp:=zfG I;unfold zzB;rw[e] at hl |-;rw[yi];exact Kept.mildly ha (wf.attach _ E I M hu (by simpa using hl)) (zlI E (Or.inl ⟨hp.1,rfl,rfl,rfl⟩)) (by omega) (by omega) _ (by simp) (one _ _)
     ·rw[ya E] at D;exact absurd D E
    rw[ya k7] at h |-;by_cases k8:x.k=8
    ·rw[yb k8] at h |-;unfold aUp at h |-;rw[(zeT h).2];exact Kept.mildly ha wf (zjg rfl (fun i hi=>zis.rfl)) (by omega) (by omega) _ (by simp) (one _ _)
    rw[ya k8] at h |-;by_cases O:x.c<0
    ·rw[yb O] at h |-;unfold zdN at h |-;obtain⟨D,F⟩:=zeT h;rw[F];exact Kept.mildly ha (zgW D).1 (zgW D).2 (by omega) (by omega) _ rfl same
    ·rw[ya O] at h |-;by_cases T:isH x.c
     ·rw[yb T] at h |-;unfold zdN at h |-;obtain⟨D,F⟩:=zeT h;rw[F];exact Kept.mildly ha (zgW D).1 (zgW D).2 (by omega) (by omega) _ rfl same
     ·rw[ya T] at h;exact absurd h (by decide)
   ·rw[ya hb] at h;exact absurd h (by decide)
  ·rw[ya kk] at h;exact absurd h (by decide)
 ·rw[ya ha] at h;exact absurd h (by decide)
theorem znT{R:Rl}{x:Ac}(h:(doF R x).e=0):zaE R=0/\Kept R x (doF R x).r (doF R x).o/\zaE (doF R x).r=0:=by
 by_cases hc:zaE R=0
 ·have e:doF R x=doG R x:=yb hc;rw[e] at h |-;have k:=zvs hc h;obtain⟨h1,D,E,F⟩:=zay hc;exact⟨hc,k,zeo k.wf (k.hlen.trans D) (by rw[k.inn];exact E) (by rw[k.tld];exact F)⟩
 ·unfold doF at h;rw[ya hc] at h;exact absurd h hc
def zyX(q:Rs):Prop:=q.e≠0->q.r=zbL/\q.o=0
theorem zwM(E:Int)(R:Rl)(o:Int):zyX (ans E R o):=fun h=>by
 unfold ans at h |-;by_cases h0:E=0
 ·rw[yb h0] at h;exact absurd rfl h
 ·rw[ya h0];exact⟨rfl,rfl⟩
theorem zwN(E:Int):zyX (bad E):=fun _=>⟨rfl,rfl⟩
theorem zwO{c:Prop}[Decidable c]{a b:Rs}(ha:zyX a)(D:zyX b):zyX (if c then a else b):=by
 by_cases h:c
 ·rw[yb h];exact ha
 ·rw[ya h];exact D
theorem zzj(R:Rl)(x:Ac):zyX (doG R x):=by
 unfold doG zrU zxE znF zzf zvd zxg zrS zxD zdN zrT aUp
 repeat' first|exact zwM _ _ _|exact zwN _|refine zwO ?_ ?_
theorem znL(E:Int):(bad E).r=zbL/\(bad E).o=0/\(bad E).e=E:=⟨rfl,rfl,rfl⟩
end Go.Proofs.YtcbcpomacdngmaaGreat
