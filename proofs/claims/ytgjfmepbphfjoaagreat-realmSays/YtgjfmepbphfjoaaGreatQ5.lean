/-
  x
-/
import Derived.Test.YtgjfmepbphfjoaaGreatQ4
namespace Go.Proofs.YtgjfmepbphfjoaaGreat
set_option maxRecDepth 100000
set_option maxHeartbeats 4000000
set_option linter.unusedVariables false
open Go.RowKit
theorem zpA{w A:World}{u:Bool}{n t m p:Int}{k:Value}{h:Int}{c:Bool}(D:Below (w.heap.size+1+1) ((w.alloc (.cells #[.bool u,.int .i64 n,.int .i64 t,.int .i64 m,.int .i64 p,k,.int .i64 h,.bool c] 47)).alloc (.cells #[.bool false,.int .i64 0,.int .i64 0,.int .i64 0,.int .i64 0,.slice none 0 0,.int .i64 0,.bool false] 47)) A) :
  (A.cell? ⟨w.heap.size,0,none⟩=some (.bool u)/\A.cell? ⟨w.heap.size,1,none⟩=some (.int .i64 n)/\A.cell? ⟨w.heap.size,2,none⟩=some (.int .i64 t)/\A.cell? ⟨w.heap.size,3,none⟩=some (.int .i64 m)/\A.cell? ⟨w.heap.size,4,none⟩=some (.int .i64 p)/\A.cell? ⟨w.heap.size,5,none⟩=some k/\A.cell? ⟨w.heap.size,6,none⟩=some (.int .i64 h)/\A.cell? ⟨w.heap.size,7,none⟩=some (.bool c)) /\
  (A.cell? ⟨w.heap.size+1,0,none⟩=some (.bool false)/\A.cell? ⟨w.heap.size+1,1,none⟩=some (.int .i64 0)/\A.cell? ⟨w.heap.size+1,2,none⟩=some (.int .i64 0)/\A.cell? ⟨w.heap.size+1,3,none⟩=some (.int .i64 0)/\A.cell? ⟨w.heap.size+1,4,none⟩=some (.int .i64 0)/\A.cell? ⟨w.heap.size+1,5,none⟩=some (.slice none 0 0)/\A.cell? ⟨w.heap.size+1,6,none⟩=some (.int .i64 0)/\A.cell? ⟨w.heap.size+1,7,none⟩=some (.bool false)) /\
  (∀ o,A.frozen? ⟨w.heap.size,o,none⟩=false)/\(∀ o,A.frozen? ⟨w.heap.size+1,o,none⟩=false):=by
 refine⟨⟨?_,?_,?_,?_,?_,?_,?_,?_⟩,⟨?_,?_,?_,?_,?_,?_,?_,?_⟩,fun o=>?_,fun o=>?_⟩
 ·exact(D.cell (by simp;omega)).trans (by go_simp)
 ·exact(D.cell (by simp;omega)).trans (by go_simp)
 ·exact(D.cell (by simp;omega)).trans (by go_simp)
 ·exact(D.cell (by simp;omega)).trans (by go_simp)
 ·exact(D.cell (by simp;omega)).trans (by go_simp)
 ·exact(D.cell (by simp;omega)).trans (by go_simp)
 ·exact(D.cell (by simp;omega)).trans (by go_simp)
 ·exact(D.cell (by simp;omega)).trans (by go_simp)
 ·exact(D.cell (by simp)).trans (by go_simp)
 ·exact(D.cell (by simp)).trans (by go_simp)
 ·exact(D.cell (by simp)).trans (by go_simp)
 ·exact(D.cell (by simp)).trans (by go_simp)
 ·exact(D.cell (by simp)).trans (by go_simp)
 ·exact(D.cell (by simp)).trans (by go_simp)
 ·exact(D.cell (by simp)).trans (by go_simp)
 ·exact(D.cell (by simp)).trans (by go_simp)
 ·exact(D.frozen (by simp;omega)).trans (by go_simp)
 ·exact(D.frozen (by simp)).trans (by go_simp)
theorem zfO(x:Nd)(ka:Option Addr)(kc:Nat)(w:World)(O:x.ks.length<=1000000)(I:zaj w ka x.ks) :
  Calls Tryz.prog 26 #[.agg #[.bool x.u,.int .i64 x.n,.int .i64 x.t,.int .i64 x.m,.int .i64 x.p,.slice ka x.ks.length kc,.int .i64 x.h,.bool x.c]] w fun e w' => ∃ g,e=.returned (.agg #[.bool x.u,.int .i64 x.n,.int .i64 x.t,.int .i64 x.m,.int .i64 x.p,.slice (some ⟨g,0,none⟩) x.ks.length x.ks.length,.int .i64 x.h,.bool x.c])/\Below w.heap.size w w' /\ w.heap.size<=g/\w'.rowIs g 3 x.ks.length (fun j=>.int .i64 (x.ks.getD j 0)):=by
 obtain⟨u,n,t,m,p,ks,h,c⟩:=x;dsimp only at *;have D:Hid (∀ o1 U:Obj,_):=fun o1 U=>zed ka kc ks ((w.alloc o1).alloc U) O (I.below (zai _ _ _));clear I;obtain⟨l,hl⟩:∃ l,ks.length=l:=⟨_,rfl⟩;rw[hl] at D;rw[hl];clear hl O
 go_enter Tryz.func26,Tryz.ntmps26
 go_wp2_with fail
 refine yf (D.out _ _) ?_;rintro e w3 ⟨rfl,F,A⟩;simp only[yk] at F A;obtain⟨⟨l0,l1,l2,l3,l4,l5,l6,l7⟩,⟨V,Z,z2,z3,z4,z5,z6,z7⟩,f1,f2⟩:=zpA F;have T:w.heap.size+1+1<w3.heap.size:=World.rowIs.lt A;have M:Hid (w3.rowIs (w.heap.size+1+1) 3 l (fun j=>.int .i64 (ks.getD j 0))):=A;have J:Hid (Below w.heap.size w w3):=(zai _ _ _).trans (F.mono (by omega));clear F A D;simp only[yk]
 go_wp2
 refine yq (v:=.agg #[.bool u,.int .i64 n,.int .i64 t,.int .i64 m,.int .i64 p,.slice (some ⟨w.heap.size+1+1,0,none⟩) l l,.int .i64 h,.bool c]) (by simp[results,Tryz.results26,go_sem,V,Z,z2,z3,z4,z5,z6,z7]) rfl ⟨w.heap.size+1+1,rfl,?_,by omega,?_⟩
 ·exact((((((((J.out.setCell (by simp) _).setCell (by simp) _).setCell (by simp) _).setCell (by simp) _).setCell (by simp) _).setCell (by simp) _).setCell (by simp) _).setCell (by simp) _).setCell (by simp) _
 ·exact((((((((M.out.setOther (by simp;omega) _).setOther (by simp) _).setOther (by simp) _).setOther (by simp) _).setOther (by simp) _).setOther (by simp) _).setOther (by simp) _).setOther (by simp) _).setOther (by simp) _
def NdR(w:World)(F:Nat->Value)(o:Nat)(x:Nd)(kb kc:Nat):Prop :=
 F o=.bool x.u/\F (o+1)=.int .i64 x.n/\F (o+2)=.int .i64 x.t/\F (o+3)=.int .i64 x.m/\F (o+4)=.int .i64 x.p/\F (o+5)=.slice (some ⟨kb,0,none⟩) x.ks.length kc/\F (o+6)=.int .i64 x.h/\F (o+7)=.bool x.c /\
 x.ks.length<=kc/\kc<=1000/\∃ G,w.rowIs kb 3 kc G/\∀ j,j<x.ks.length->G j=.int .i64 (x.ks.getD j 0)
def Own(w:World)(B g:Nat)(S:List Nd)(kb kc:Nat->Nat)(k:Nat):Prop :=
 B<=g/\∃ F,w.rowIs g 47 (S.length*8) F/\(∀ i,i<k->NdR w F (i*8) (nd S i) (kb i) (kc i))/\(∀ i,i<k->g<kb i)/\(∀ i,i<k->∀ j,j<k->kb i=kb j->i=j)
theorem NdR.below{w w' : World}{F:Nat->Value}{o:Nat}{x:Nd}{kb kc B:Nat}(h:NdR w F o x kb kc)(V:Below B w w')(T:kb<B):NdR w' F o x kb kc:=by
 obtain⟨D,e1,e2,e3,e4,e5,I,J,M,A,G,U,O⟩:=h;exact⟨D,e1,e2,e3,e4,e5,I,J,M,A,G,U.of_block (V.block kb T),O⟩
theorem NdR.row{w:World}{F:Nat->Value}{o:Nat}{x:Nd}{kb kc:Nat}(h:NdR w F o x kb kc):kb<w.heap.size:=by
 obtain⟨_,_,_,_,_,_,_,_,_,_,G,A,_⟩:=h;exact A.lt
theorem Own.nds{w:World}{B g:Nat}{S:List Nd}{kb kc:Nat->Nat}(h:Own w B g S kb kc S.length):zae w (some ⟨g,0,none⟩) S:=fun i V=>by
 obtain⟨_,F,A,U,_,_⟩:=h;obtain⟨D,e1,e2,e3,e4,e5,I,J,e8,M,G,T,O⟩:=U i V;refine⟨g,0,rfl,?_⟩;rw[yv];refine⟨?_,?_,?_,?_,?_,⟨some ⟨kb i,0,none⟩,kc i,?_,fun j Z=>⟨kb i,0,rfl,?_⟩⟩,?_,?_⟩
 ·rw[A.cell (by omega),D]
 ·rw[A.cell (by omega),e1]
 ·rw[A.cell (by omega),e2]
 ·rw[A.cell (by omega),e3]
 ·rw[A.cell (by omega),e4]
 ·rw[A.cell (by omega),e5]
 ·rw[yv,T.cell (by omega),O j Z]
 ·rw[A.cell (by omega),I]
 ·rw[A.cell (by omega),J]
def zmA(F:Nat->Value)(o:Nat)(w v1 v2 A D I J M:Value):Nat->Value:=fun j =>
 if j=o+7 then M else if j=o+6 then J else if j=o+5 then I else if j=o+4 then D else if j=o+3 then A else if j=o+2 then v2 else if j=o+1 then v1 else if j=o then w else F j
theorem zlx{w:World}{g t n:Nat}{F:Nat->Value}(h:w.rowIs g t n F)(o:Nat)(A v1 v2 D I J M O:Value) :
  ((((((((w.setCell ⟨g,o,none⟩ A).setCell ⟨g,o+1,none⟩ v1).setCell ⟨g,o+2,none⟩ v2).setCell ⟨g,o+3,none⟩ D).setCell ⟨g,o+4,none⟩ I).setCell ⟨g,o+5,none⟩ J).setCell ⟨g,o+6,none⟩ M).setCell ⟨g,o+7,none⟩ O).rowIs g t n (zmA F o A v1 v2 D I J M O) :=
 (((((((h.set _ _).set _ _).set _ _).set _ _).set _ _).set _ _).set _ _).set _ _
theorem put8_other{F:Nat->Value}{o j:Nat}{w v1 v2 A D I J M:Value}(h:j<o\/o+8<=j):zmA F o w v1 v2 A D I J M j=F j:=by
 unfold zmA;rw[ya (by omega),ya (by omega),ya (by omega),ya (by omega),ya (by omega),ya (by omega),ya (by omega),ya (by omega)]
theorem NdR.put8_other{w:World}{F:Nat->Value}{o D:Nat}{x:Nd}{kb kc:Nat}{O v1 v2 T U V Z v7:Value}(h:NdR w F o x kb kc)(ho:o+8<=D\/D+8<=o):NdR w (zmA F D O v1 v2 T U V Z v7) o x kb kc:=by
 obtain⟨e0,e1,e2,e3,e4,e5,e6,e7,I,A,G,M,J⟩:=h;refine⟨?_,?_,?_,?_,?_,?_,?_,?_,I,A,G,M,J⟩
 all_goals
  rw[YtgjfmepbphfjoaaGreat.put8_other (by omega)];assumption
def zfz:Array Value:=#[.bool false,.int .i64 0,.int .i64 0,.int .i64 0,.int .i64 0,.slice none 0 0,.int .i64 0,.bool false]
theorem zoh:(Tryz.prog.info? 47).map (fun i=>(i.zero,i.size,i.bytes))=some (some (.agg #[.bool false,.int .i64 0,.int .i64 0,.int .i64 0,.int .i64 0,.slice none 0 0,.int .i64 0,.bool false]),8,80):=by kernel_rfl
theorem zja(n:Nat)(hn:n<=24)(w:World):(Instr.makeSlice 22 (.int .i64 (n:Int)) (.int .i64 (n:Int))).run Tryz.prog w=.ok (.slice (some ⟨w.heap.size,0,none⟩) n n) (w.alloc (.cells (madeCells zfz (n*8)) 47)):=by
 obtain⟨i,I,A,D,F⟩:=info_parts zoh;have h:=run_make (P:=Tryz.prog) w 22 47 i _ Tryz.underlying22 I A .i64 .i64 n n (by omega) (by omega) (by rw[F];omega) (by omega);rw[D] at h;simp only[yg] at h;exact h
theorem zik(w:World)(n:Nat):(w.alloc (.cells (madeCells zfz (n*8)) 47)).rowIs w.heap.size 47 (n*8) (fun j=>zfz[j % 8]!):=by
 have h:=World.rowIs_alloc w (madeCells zfz (n*8)) 47 (fun j=>zfz[j % 8]!) (fun i A=>by rw[size_madeCells] at A;simp[madeCells,A,zfz]);rw[size_madeCells] at h;exact h
structure ENd where
 u:Bool
 n:Int
 t:Int
 m:Int
 p:Int
 ka:Option Addr
 kl:Nat
 kc:Nat
 h:Int
 c:Bool
def zsf(x:ENd):Nat->Value
 | 0=>.bool x.u
 | 1=>.int .i64 x.n
 | 2=>.int .i64 x.t
 | 3=>.int .i64 x.m
 | 4=>.int .i64 x.p
 | 5=>.slice x.ka x.kl x.kc
 | 6=>.int .i64 x.h
 | _=>.bool x.c
theorem zsv(n:Nat)(hn:n<=100000)(w:World):(Instr.makeSlice 22 (.int .i64 (n:Int)) (.int .i64 (n:Int))).run Tryz.prog w=.ok (.slice (some ⟨w.heap.size,0,none⟩) n n) (w.alloc (.cells (madeCells #[.bool false,.int .i64 0,.int .i64 0,.int .i64 0,.int .i64 0,.slice none 0 0,.int .i64 0,.bool false] (n*8)) 47)):=by
 have J:(Tryz.prog.info? 47).map (fun i=>(i.zero,i.size,i.bytes))=some (some (.agg #[.bool false,.int .i64 0,.int .i64 0,.int .i64 0,.int .i64 0,.slice none 0 0,.int .i64 0,.bool false]),8,80):=by kernel_rfl
 obtain⟨i,I,A,D,F⟩:=info_parts J;have h:=run_make (P:=Tryz.prog) w 22 47 i _ Tryz.underlying22 I A .i64 .i64 n n (by omega) (by omega) (by rw[F];omega) (by omega);rw[D] at h;simp only[yg] at h;exact h
theorem zbX.putNd{w:World}{g n k:Nat}{F:Nat->Value}(h:w.rowIs g 47 (n*8) F)(x:ENd):∃ A,((((((((w.setCell ⟨g,k*8,none⟩ (.bool x.u)).setCell ⟨g,k*8+1,none⟩ (.int .i64 x.n)).setCell ⟨g,k*8+2,none⟩ (.int .i64 x.t)).setCell ⟨g,k*8+3,none⟩ (.int .i64 x.m)).setCell ⟨g,k*8+4,none⟩ (.int .i64 x.p)).setCell ⟨g,k*8+5,none⟩ (.slice x.ka x.kl x.kc)).setCell ⟨g,k*8+6,none⟩ (.int .i64 x.h)).setCell ⟨g,k*8+7,none⟩ (.bool x.c)).rowIs g 47 (n*8) A/\(∀ j,j<8->A (k*8+j)=zsf x j)/\∀ i,i<k->∀ j,j<8->A (i*8+j)=F (i*8+j):=by
 refine⟨_,(((((((h.set _ _).set _ _).set _ _).set _ _).set _ _).set _ _).set _ _).set _ _,fun j D=>?_,fun i I j D=>?_⟩
 ·rcases(by omega:j=0\/j=1\/j=2\/j=3\/j=4\/j=5\/j=6\/j=7) with rfl|rfl|rfl|rfl|rfl|rfl|rfl|rfl
  ·rw[ya (by omega),ya (by omega),ya (by omega),ya (by omega),ya (by omega),ya (by omega),ya (by omega),yd (by omega)];rfl
  ·rw[ya (by omega),ya (by omega),ya (by omega),ya (by omega),ya (by omega),ya (by omega),yd rfl];rfl
  ·rw[ya (by omega),ya (by omega),ya (by omega),ya (by omega),ya (by omega),yd rfl];rfl
  ·rw[ya (by omega),ya (by omega),ya (by omega),ya (by omega),yd rfl];rfl
  ·rw[ya (by omega),ya (by omega),ya (by omega),yd rfl];rfl
  ·rw[ya (by omega),ya (by omega),yd rfl];rfl
  ·rw[ya (by omega),yd rfl];rfl
  ·rw[yd rfl];rfl
 ·rw[ya (by omega),ya (by omega),ya (by omega),ya (by omega),ya (by omega),ya (by omega),ya (by omega),ya (by omega)]
theorem zso(K:Nat)(eg:∀ args w,(callFunc K args).run Tryz.prog w=.ok (.enter K args) w)(a:Option Addr)(c n:Nat)(S:Nat->ENd)(R:Nat->ENd->Nat->Nat->World->Prop)(w:World)(hn:n<=100000)
  (hs:∀ i,i<n->∃ b o,a=some ⟨b,o,none⟩/\w.cell? ⟨b,o+i*8,none⟩=some (.bool (S i).u)/\w.cell? ⟨b,o+i*8+1,none⟩=some (.int .i64 (S i).n)/\w.cell? ⟨b,o+i*8+2,none⟩=some (.int .i64 (S i).t)/\w.cell? ⟨b,o+i*8+3,none⟩=some (.int .i64 (S i).m)/\w.cell? ⟨b,o+i*8+4,none⟩=some (.int .i64 (S i).p)/\w.cell? ⟨b,o+i*8+5,none⟩=some (.slice (S i).ka (S i).kl (S i).kc)/\w.cell? ⟨b,o+i*8+6,none⟩=some (.int .i64 (S i).h)/\w.cell? ⟨b,o+i*8+7,none⟩=some (.bool (S i).c))
  (hK:∀ i,i<n->∀ W,Below w.heap.size w W->Calls Tryz.prog K #[.agg #[.bool (S i).u,.int .i64 (S i).n,.int .i64 (S i).t,.int .i64 (S i).m,.int .i64 (S i).p,.slice (S i).ka (S i).kl (S i).kc,.int .i64 (S i).h,.bool (S i).c]] W fun e V=>∃ y:ENd,e=.returned (.agg #[.bool y.u,.int .i64 y.n,.int .i64 y.t,.int .i64 y.m,.int .i64 y.p,.slice y.ka y.kl y.kc,.int .i64 y.h,.bool y.c])/\Below W.heap.size W V/\St (fun b=>b<W.heap.size\/V.heap.size<=b) (R i y W.heap.size V.heap.size) V) :
  Calls Tryz.prog 114 #[.slice a n c,.func (.func K) #[] #[]] w fun e w' => e=.returned (.slice (some ⟨w.heap.size,0,none⟩) n n)/\Below w.heap.size w w' /\ zbX zsf 47 8 n R w.heap.size n w' := by
 have HS:Hid _:=hs;have HK:Hid _:=hK;clear hs hK;have b6:=zsv n hn
 go_enter Tryz.func114,Tryz.ntmps114
 go_wp2
 go_loopg [13] n (fun m s13 wr=>∃ k:Nat,k<=n/\n-k<=m/\s13=.int .i64 k/\Below w.heap.size w wr/\Hid (zbX zsf 47 8 n R w.heap.size k wr))
 case atStart=>exact⟨0,by omega,by omega,rfl,zab _ _,zbX.zero w _ 47 8 n R (S 0)⟩
 case round =>
  obtain⟨k,hk,hg,rfl,I,O⟩:=hrel;by_cases U:k<n
  ·have a9:(k:Int)<(n:Int):=by omega
   obtain⟨b,o,rfl,c0,c1,c2,c3,c4,c5,Z,c7⟩:=HS.out k U;replace c0:=zac c0 I;replace c1:=zac c1 I;replace c2:=zac c2 I;replace c3:=zac c3 I;replace c4:=zac c4 I;replace c5:=zac c5 I;replace Z:=zac Z I;replace c7:=zac c7 I;have b4:b<wr.heap.size:=ye _ _ c0;obtain⟨A,a4,F,M⟩:=O.out.facts;have D:Hid (∀ W,Below wr.heap.size wr W->Calls _ _ _ _ _):=fun W hW=>HK.out k U W (I.trans (hW.mono I.size));generalize S k=x at *;obtain⟨xu,xn,xt,xm,xp,b7,b9,b8,xh,xc⟩:=x;dsimp only at c0 c1 c2 c3 c4 c5 Z c7 D
   go_wp2_with (go_at_fn K;refine(D.out _ ?nd).mono ?_;(case nd=>exact zab _ _);rintro e w3 ⟨⟨yu,yn,yt,ym,yp,a5,a7,a6,yh,yc⟩,rfl,T,h3⟩;have HR:Hid _:=h3;clear h3;have J:Hid (Below wr.heap.size wr w3):=(zab _ _).trans (T.mono (by simp));have s3:Hid (wr.heap.size<=w3.heap.size):=J.out.size;have SZ:Hid _:=T.size;clear T;have q0:=(J.out.cell (by exact A)).trans (M (k*8) (by omega));have q1:=(J.out.cell (by exact A)).trans (M (k*8+1) (by omega));have q2:=(J.out.cell (by exact A)).trans (M (k*8+2) (by omega));have q3:=(J.out.cell (by exact A)).trans (M (k*8+3) (by omega));have q4:=(J.out.cell (by exact A)).trans (M (k*8+4) (by omega));have q5:=(J.out.cell (by exact A)).trans (M (k*8+5) (by omega));have q6:=(J.out.cell (by exact A)).trans (M (k*8+6) (by omega));have q7:=(J.out.cell (by exact A)).trans (M (k*8+7) (by omega));have a8:=fun o=>(J.out.frozen (by exact A)).trans (a4 o);have b5:w.heap.size<w3.heap.size:=ys A s3.out)
   go_roundg (n-(k+1))
   case measure=>omega
   case rel =>
    refine⟨k+1,by omega,by omega,by go_num,(((((((((I.trans (J.out.mono I.size)).setCell (by simp) _).setCell (by simp) _).setCell (by simp) _).setCell (by simp) _).setCell (by simp) _).setCell (by simp) _).setCell (by simp) _).setCell (by simp) _),zbX.step O.out U J.out (by simp) ?_ HR.out rfl (((((((((zbA.refl (fun b=>b=w.heap.size) _).trans (zbA.set (X:=fun b=>b=w.heap.size) _ _ rfl)).trans (zbA.set (X:=fun b=>b=w.heap.size) _ _ rfl)).trans (zbA.set (X:=fun b=>b=w.heap.size) _ _ rfl)).trans (zbA.set (X:=fun b=>b=w.heap.size) _ _ rfl)).trans (zbA.set (X:=fun b=>b=w.heap.size) _ _ rfl)).trans (zbA.set (X:=fun b=>b=w.heap.size) _ _ rfl)).trans (zbA.set (X:=fun b=>b=w.heap.size) _ _ rfl)).trans (zbA.set (X:=fun b=>b=w.heap.size) _ _ rfl)) (fun F M=>zbX.putNd M ⟨yu,yn,yt,ym,yp,a5,a7,a6,yh,yc⟩)⟩;have:=SZ.out;simpa using this
  ·have:k=n:=by omega
   subst this
   go_wp2
   go_ret;exact⟨rfl,I,O.out⟩
def idx(ks:List Int)(v:Int):Int:=if v ∈ ks then (ks.idxOf v:Int) else -1
theorem zpX{ks:List Int}{v:Int}(h:∀ i,i<ks.length->ks.getD i 0≠v):idx ks v = -1/\v ∉ ks:=by
 have hn:v ∉ ks:=fun A=>by
  obtain⟨i,w,e⟩:=List.getElem_of_mem A;exact h i w (by rw[zaf ks 0 w];exact e)
 exact⟨ya hn,hn⟩
theorem zgs:∀ (ks:List Int) (v:Int) (k:Nat),k<ks.length->ks.getD k 0=v->(∀ i,i<k->ks.getD i 0≠v)->ks.idxOf v=k
 | [],_,_,h,_,_=>by simp at h
 | x :: r,v,0,_,h,_=>by
  have:x=v:=by simpa using h
  rw[this];simp
 | x :: r,v,k+1,D,h,A=>by
  have hx:x≠v:=by simpa using A 0 (by omega)
  have:=zgs r v k (by simpa using D) (by simpa using h) (fun i F=>by simpa using A (i+1) (by omega));have w:(x == v)=false:=beq_eq_false_iff_ne.2 hx;rw[List.idxOf_cons,this,w];rfl
theorem zpY{ks:List Int}{v:Int}{k:Nat}(w:k<ks.length)(h:ks.getD k 0=v)(D:∀ i,i<k->ks.getD i 0≠v):idx ks v=k/\v ∈ ks:=by
 have A:v ∈ ks:=by rw[<- h,zaf ks 0 w];exact List.getElem_mem w
 exact⟨by unfold idx;rw[yd A,zgs ks v k w h D],A⟩
theorem ziQ(a:Option Addr)(c:Nat)(ks:List Int)(v:Int)(w:World)(J:ks.length<=9223372036854775807)(D:zaj w a ks) :
  Calls Tryz.prog 46 #[.slice a ks.length c,.int .i64 v] w fun e w' => e=.returned (.int .i64 (idx ks v))/\w' = w:=by
 have N:Hid ((∀ i,i<ks.length->ks.getD i 0≠v)->idx ks v = -1):=fun h=>(zpX h).1;have U:Hid (∀ k,k<ks.length->ks.getD k 0=v->(∀ i,i<k->ks.getD i 0≠v)->idx ks v=k):=fun k h1 V h3=>(zpY h1 V h3).1;generalize idx ks v=r at *;generalize hn:ks.length=n at *;have O:Hid (ks.length=n):=hn;clear hn
 go_enter Tryz.func46,Tryz.ntmps46
 go_wp2
 go_loopg [8] n (fun g s8 wr=>∃ k:Nat,k<=n/\n-k<=g/\s8=.int .i64 k/\wr=w/\Hid (∀ i,i<k->ks.getD i 0≠v))
 case atStart=>exact⟨0,by omega,by omega,rfl,rfl,fun i hi=>by omega⟩
 case round =>
  obtain⟨k,hk,hg,rfl,rfl,A⟩:=hrel;by_cases I:k<n
  ·obtain⟨b,o,rfl,hc⟩:=D k (by rw[O.out];exact I);clear D;by_cases F:v=ks.getD k 0
   ·have Z:=U.out k I F.symm A.out;subst Z;rw[<- F] at hc;clear F
    go_wp2
    go_ret;exact⟨rfl,rfl⟩
   ·have M:Hid (ks.getD k 0≠v):=fun e=>F e.symm;have h1:(v == ks.getD k 0)=false:=beq_eq_false_iff_ne.2 F;generalize hy:ks.getD k 0=y at *;have T:Hid _:=hy;clear hy
    go_wp2
    go_roundg (n-(k+1))
    case measure=>omega
    case rel =>
     refine⟨k+1,by omega,by omega,by go_num,rfl,(show Hid _ from fun i hi=>?_)⟩;by_cases e:i=k
     ·rw[e,T.out];exact M.out
     ·exact A.out i (by omega)
  ·have:k=n:=by omega
   subst this;have Z:=N.out A.out;subst Z;clear D
   go_wp2
   go_ret;exact⟨rfl,rfl⟩
theorem zme(ks:List Int)(v:Int):decide (0<=idx ks v)=decide (v ∈ ks):=by
 unfold idx;by_cases h:v ∈ ks
 ·rw[yd h,decide_eq_true h,decide_eq_true (by omega)]
 ·rw[ya h,decide_eq_false h,decide_eq_false (by omega)]
theorem zec(a:Option Addr)(c:Nat)(ks:List Int)(v:Int)(w:World)(A:ks.length<=9223372036854775807)(D:zaj w a ks) :
  Calls Tryz.prog 17 #[.slice a ks.length c,.int .i64 v] w fun e w' => e=.returned (.bool (decide (v ∈ ks)))/\w' = w:=by
 have h:=ziQ a c ks v w A D;rw[<- zme];clear D;generalize idx ks v=r at *;generalize ks.length=n at *
 go_enter Tryz.func17,Tryz.ntmps17
 go_wp2_with (go_at_call 46;refine h.mono ?_;rintro e w' ⟨rfl,rfl⟩)
 go_ret;exact⟨rfl,rfl⟩
theorem zaj.take{w:World}{a:Option Addr}{ks:List Int}(h:zaj w a ks)(k:Nat):zaj w a (ks.take k):=fun i D=>by
 rw[List.length_take] at D;obtain⟨b,o,e,A⟩:=h i (by omega);refine⟨b,o,e,?_⟩;rw[A,zaf ks 0 (by omega),zaf (ks.take k) 0 (by rw[List.length_take];omega),List.getElem_take]
theorem zav(w:World)(o1 A:Obj):Below w.heap.size w ((w.alloc o1).alloc A):=((yj _ _).alloc (yi _) _).alloc (by simp) _
end Go.Proofs.YtgjfmepbphfjoaaGreat
