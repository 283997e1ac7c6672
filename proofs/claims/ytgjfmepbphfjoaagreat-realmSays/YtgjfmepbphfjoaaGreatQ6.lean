/-
  x
-/
import Derived.Test.YtgjfmepbphfjoaaGreatQ5
import Derived.BigQuiet
import Derived.Laws.StructEq
namespace Go.Proofs.YtgjfmepbphfjoaaGreat
set_option maxRecDepth 100000
set_option maxHeartbeats 4000000
set_option linter.unusedVariables false
open Go.RowKit
theorem Own.below{w w' : World}{B g k:Nat}{S:List Nd}{kb kc:Nat->Nat}(h:Own w B g S kb kc k)(I:Below w.heap.size w w'):Own w' B g S kb kc k:=by
 obtain⟨M,F,A,D,hg,hd⟩:=h;exact⟨M,F,A.of_block (I.block g A.lt),fun i J=>(D i J).below I (D i J).row,hg,hd⟩
theorem Own.setOther{w:World}{B g k:Nat}{S:List Nd}{kb kc:Nat->Nat}(h:Own w B g S kb kc k){a:Addr}(ha:a.block<g)(v:Value):Own (w.setCell a v) B g S kb kc k:=by
 obtain⟨U,F,V,hN,hg,hd⟩:=h;refine⟨U,F,V.setOther (by omega) v,fun i D=>?_,hg,hd⟩;obtain⟨I,e1,e2,e3,e4,e5,J,M,O,A,G,Z,T⟩:=hN i D;exact⟨I,e1,e2,e3,e4,e5,J,M,O,A,G,Z.setOther (by have:=hg i D;omega) v,T⟩
def RNd(S:List Nd)(i:Nat)(y:ENd)(A w:Nat)(V:World):Prop :=
 y.u=(nd S i).u/\y.n=(nd S i).n/\y.t=(nd S i).t/\y.m=(nd S i).m/\y.p=(nd S i).p/\y.h=(nd S i).h/\y.c=(nd S i).c/\y.kl=(nd S i).ks.length/\y.kc=(nd S i).ks.length/\∃ kb,y.ka=some ⟨kb,0,none⟩/\A<=kb/\kb<w/\V.rowIs kb 3 (nd S i).ks.length (fun j=>.int .i64 ((nd S i).ks.getD j 0))
theorem zqp{w:World}{B g:Nat}{S:List Nd}(hB:B<=g)(hK:∀ i,i<S.length->(nd S i).ks.length<=1000)(h:zbX zsf 47 8 S.length (RNd S) g S.length w):∃ kb kc,Own w B g S kb kc S.length:=by
 obtain⟨v,lo,hi,F,hF,D⟩:=h
 have key:∀ i,i<S.length->(v i).ka=some ⟨((v i).ka.getD ⟨0,0,none⟩).block,0,none⟩/\lo i<=((v i).ka.getD ⟨0,0,none⟩).block/\((v i).ka.getD ⟨0,0,none⟩).block<hi i:=fun i A=>by
  obtain⟨_,_,_,_,_,_,_,_,_,kb,e,h1,Z,_⟩:=(D i A).2.2.2.2.2.at;rw[e];exact⟨rfl,h1,Z⟩
 refine⟨fun i=>((v i).ka.getD ⟨0,0,none⟩).block,fun i=>(nd S i).ks.length,hB,F,hF,fun i A=>?_,fun i A=>?_,fun i A j J e=>?_⟩
 ·obtain⟨h1,_,_,_,_,h6⟩:=D i A;obtain⟨M,e1,e2,e3,e4,O,T,V,U,kb,I,_,_,hr⟩:=h6.at;refine⟨?_,?_,?_,?_,?_,?_,?_,?_,yi _,hK i A,_,?_,fun j _=>rfl⟩
  ·exact(h1 0 (by omega)).trans (congrArg Value.bool M)
  ·exact(h1 1 (by omega)).trans (congrArg (Value.int .i64) e1)
  ·exact(h1 2 (by omega)).trans (congrArg (Value.int .i64) e2)
  ·exact(h1 3 (by omega)).trans (congrArg (Value.int .i64) e3)
  ·exact(h1 4 (by omega)).trans (congrArg (Value.int .i64) e4)
  ·refine(h1 5 (by omega)).trans ?_;show Value.slice (v i).ka (v i).kl (v i).kc=Value.slice (some ⟨((v i).ka.getD ⟨0,0,none⟩).block,0,none⟩) (nd S i).ks.length (nd S i).ks.length;rw[V,U,I];rfl
  ·exact(h1 6 (by omega)).trans (congrArg (Value.int .i64) O)
  ·exact(h1 7 (by omega)).trans (congrArg Value.bool T)
  ·show w.rowIs ((v i).ka.getD ⟨0,0,none⟩).block _ _ _;rw[I];exact hr
 ·have:=(D i A).2.1;have:=(key i A).2.1;show g<((v i).ka.getD ⟨0,0,none⟩).block;omega
 ·have k1:=(key i A).2;have k2:=(key j J).2;rcases Nat.lt_trichotomy i j with h|h|h
  ·have:=(D j J).2.2.2.2.1 i h;dsimp only at e;omega
  ·exact h
  ·have:=(D i A).2.2.2.2.1 j h;dsimp only at e;omega
theorem zlN(a:Option Addr)(c:Nat)(S:List Nd)(w:World)(V:S.length<=24)(hK:∀ i,i<S.length->(nd S i).ks.length<=1000)(M:zae w a S) :
  Calls Tryz.prog 114 #[.slice a S.length c,.func (.func 26) #[] #[]] w fun e w' => e=.returned (.slice (some ⟨w.heap.size,0,none⟩) S.length S.length)/\Below w.heap.size w w' /\ zbX zsf 47 8 S.length (RNd S) w.heap.size S.length w' := by
 obtain⟨f,F⟩:=Classical.skolem.1 (fun i=>show ∃ x:Option Addr × Nat,i<S.length->(∃ b o,a=some ⟨b,o,none⟩/\w.cell? ⟨b,o+i*8,none⟩=some (.bool (nd S i).u)/\w.cell? ⟨b,o+i*8+1,none⟩=some (.int .i64 (nd S i).n)/\w.cell? ⟨b,o+i*8+2,none⟩=some (.int .i64 (nd S i).t)/\w.cell? ⟨b,o+i*8+3,none⟩=some (.int .i64 (nd S i).m)/\w.cell? ⟨b,o+i*8+4,none⟩=some (.int .i64 (nd S i).p)/\w.cell? ⟨b,o+i*8+5,none⟩=some (.slice x.1 (nd S i).ks.length x.2)/\w.cell? ⟨b,o+i*8+6,none⟩=some (.int .i64 (nd S i).h)/\w.cell? ⟨b,o+i*8+7,none⟩=some (.bool (nd S i).c))/\zaj w x.1 (nd S i).ks by
  by_cases A:i<S.length
  ·obtain⟨b,o,e,c0,c1,c2,c3,c4,⟨ka,kc,c5,D⟩,I,J⟩:=M i A;exact⟨(ka,kc),fun _=>⟨⟨b,o,e,c0,c1,c2,c3,c4,c5,I,J⟩,D⟩⟩
  ·exact⟨(none,0),fun h=>absurd h A⟩)
 refine zso 26 (enters_of Tryz.func26 (by kernel_rfl) rfl) a c S.length (fun i=>⟨(nd S i).u,(nd S i).n,(nd S i).t,(nd S i).m,(nd S i).p,(f i).1,(nd S i).ks.length,(f i).2,(nd S i).h,(nd S i).c⟩) (RNd S) w (by omega) (fun i A=>(F i A).1) (fun i A W O=>?_);refine(zfO (nd S i) (f i).1 (f i).2 W (by have:=hK i A;omega) ((F i A).2.below O)).mono ?_;rintro e w' ⟨g,rfl,T,hg,hr⟩;refine⟨⟨(nd S i).u,(nd S i).n,(nd S i).t,(nd S i).m,(nd S i).p,some ⟨g,0,none⟩,(nd S i).ks.length,(nd S i).ks.length,(nd S i).h,(nd S i).c⟩,rfl,T,fun w2 U=>⟨rfl,rfl,rfl,rfl,rfl,rfl,rfl,rfl,rfl,g,rfl,hg,hr.lt,hr.of_block (U.block g hr.lt (fun hx=>?_))⟩⟩;have:=hr.lt;rcases hx with hx|hx <;> omega
theorem copy_any(a:Option Addr)(c:Nat)(S:List Nd)(w:World)(Z:S.length<=24)(hK:∀ i,i<S.length->(nd S i).ks.length<=1000)(I:zae w a S) :
  Calls Tryz.prog 70 #[.agg #[.slice a S.length c]] w fun e w' => ∃ g kb kc,e=.returned (.agg #[.slice (some ⟨g,0,none⟩) S.length S.length])/\Below w.heap.size w w' /\ Own w' w.heap.size g S kb kc S.length:=by
 have D:Hid (∀ o1 J,Calls _ _ _ _ _):=fun o1 J=>zlN a c S ((w.alloc o1).alloc J) Z hK (I.below (zai _ _ _));have T:Hid (∀ V,zbX zsf 47 8 S.length (RNd S) (w.heap.size+1+1) S.length V->∃ kb kc,Own V w.heap.size (w.heap.size+1+1) S kb kc S.length):=fun V h=>zqp (by omega) hK h;clear I hK;simp only[yk] at D;generalize S.length=n at *
 go_enter Tryz.func70,Tryz.ntmps70
 go_wp2_with (go_at_call 114;refine(D.out _ _).mono ?_;rintro e w3 ⟨rfl,A,F⟩;have U:Hid _:=F;clear F;have y1:w3.cell? ⟨w.heap.size+1,0,none⟩=some (.slice none 0 0):=(A.cell (by simp)).trans (by go_simp);have y2:∀ o,w3.frozen? ⟨w.heap.size+1,o,none⟩=false:=fun o=>(A.frozen (by simp)).trans (by go_simp);have M:Hid (Below w.heap.size w w3):=(zai _ _ _).trans (A.mono (by omega));clear A)
 obtain⟨kb,kc,O⟩:=T.out w3 U.out;refine yq (v:=.agg #[.slice (some ⟨w.heap.size+1+1,0,none⟩) n n]) (by simp[results,Tryz.results70,go_sem,y1]) rfl ⟨w.heap.size+1+1,kb,kc,rfl,M.out.setCell (by simp) _,O.setOther (by simp) _⟩
theorem zhi(x:Nd)(k:Value)(w:World) :
  Calls Tryz.prog 123 #[.agg #[.bool x.u,.int .i64 x.n,.int .i64 x.t,.int .i64 x.m,.int .i64 x.p,k,.int .i64 x.h,.bool x.c]] w fun e w' => e=.returned (.bool (!x.u && decide (x.n<1000000)))/\Below w.heap.size w w' := by
 obtain⟨u,n,t,m,p,ks,h,c⟩:=x;dsimp only;cases u
 ·by_cases hn:n<1000000
  ·have hd:(!false && decide (n<1000000))=true:=by simp[hn]
   rw[hd];clear hd
   go_enter Tryz.func123,Tryz.ntmps123
   go_wp2
   go_ret;exact⟨rfl,(yj _ _).alloc (yi _) _⟩
  ·have hd:(!false && decide (n<1000000))=false:=by simp[hn]
   rw[hd];clear hd
   go_enter Tryz.func123,Tryz.ntmps123
   go_wp2
   go_ret;exact⟨rfl,(yj _ _).alloc (yi _) _⟩
 ·go_enter Tryz.func123,Tryz.ntmps123
  go_wp2
  go_ret;exact⟨rfl,(yj _ _).alloc (yi _) _⟩
def zbO(x:Nd):Bool:=!x.u && decide (x.n<1000000)
theorem ziJ(a:Option Addr)(c:Nat)(S:List Nd)(w:World)(hn:S.length<=9223372036854775807)(O:zae w a S)(k:Nat)(hk:k<S.length)(T:zbO (nd S k)=true)(A:∀ i,i<k->zbO (nd S i)=false) :
  Calls Tryz.prog 122 #[.slice a S.length c,.func (.func 123) #[] #[]] w fun e w' => e=.returned (.int .i64 k)/\Below w.heap.size w w' := by
 have HS:Hid (zae w a S):=O;have V:Hid _:=A;have I:Hid _:=T;clear O A T;generalize M:S.length=n at *;have Z:Hid _:=M;clear M
 go_enter Tryz.func122,Tryz.ntmps122
 go_wp2
 go_loopg [8] n (fun g s8 wr=>∃ i:Nat,i<=k/\n-i<=g/\s8=.int .i64 i/\Below w.heap.size w wr)
 case atStart=>exact⟨0,by omega,by omega,rfl,yj _ _⟩
 case round =>
  obtain⟨i,hi,hg,rfl,F⟩:=hrel;have J:i<n:=by omega
  have U:(i:Int)<(n:Int):=by omega
  obtain⟨b,o,rfl,c0,c1,c2,c3,c4,⟨ka,kc,c5,_⟩,c6,c7⟩:=(HS.out.below F) i (by rw[Z.out];exact J);have d1:=fun v W=>zhi (nd S i) v W;rw[show (!(nd S i).u && decide ((nd S i).n<1000000))=zbO (nd S i) from rfl] at d1;by_cases e:i=k
  ·subst e;rw[I.out] at d1;generalize nd S i=x at *
   go_wp2_with (go_at_call 123;refine(d1 _ _).mono ?_;rintro e w' ⟨rfl,D⟩)
   go_ret;exact⟨rfl,F.trans (D.mono F.size)⟩
  ·rw[V.out i (by omega)] at d1;generalize nd S i=x at *
   go_wp2_with (go_at_call 123;refine(d1 _ _).mono ?_;rintro e w' ⟨rfl,D⟩)
   go_roundg (n-(i+1))
   case measure=>omega
   case rel=>exact⟨i+1,by omega,by omega,by go_num,F.trans (D.mono F.size)⟩
def zaL:Nd:=⟨false,0,0,0,-1,[],-1,false⟩
theorem zem(n i:Nat)(x:Nd)(h:i<n):nd (List.replicate n x) i=x:=by
 rw[zaJ (by simpa using h)];simp
theorem zqm(n:Nat)(w:World)(hn:n<=24) :
  Calls Tryz.prog 27 #[.int .i64 n] w fun e w' => ∃ g,e=.returned (.tuple #[.agg #[.slice (some ⟨g,0,none⟩) n n],.int .i64 0])/\Below w.heap.size w w' /\ zae w' (some ⟨g,0,none⟩) (List.replicate n zaL)/\w.heap.size<=g/\g<w'.heap.size:=by
 have a7:=zja n (by omega)
 go_enter Tryz.func27,Tryz.ntmps27
 go_wp2_with (go_at_call 54;refine(zdz _ _ _ _ (by omega) (by omega)).mono ?_;rintro e w' ⟨rfl,rfl⟩)
 go_loopg [14] n (fun g s14 wr=>∃ (k:Nat) (F:Nat->Value),k<=n/\n-k<=g/\s14=.int .i64 k/\Below (w.heap.size+1) (w.alloc (Obj.cells #[Value.slice none 0 0] 24)) wr/\w.heap.size+1<wr.heap.size/\Hid (wr.rowIs (w.heap.size+1) 47 (n*8) F)/\Hid (∀ i,i<k->F (i*8)=.bool false/\F (i*8+1)=.int .i64 0/\F (i*8+2)=.int .i64 0/\F (i*8+3)=.int .i64 0/\F (i*8+4)=.int .i64 (-1)/\F (i*8+5)=.slice none 0 0/\F (i*8+6)=.int .i64 (-1)/\F (i*8+7)=.bool false))
 case atStart =>
  refine⟨0,fun j=>zfz[j % 8]!,Nat.zero_le _,by omega,rfl,(yj _ _).alloc (by simp) _,by simp,?_,(show Hid _ from fun i O=>absurd O (yr _))⟩;have h:=zik (w.alloc (Obj.cells #[Value.slice none 0 0] 24)) n;simp only[yk] at h;exact h
 case round =>
  obtain⟨k,F,hk,hg,rfl,M,a8,I,A⟩:=hrel;have T:wr.cell? ⟨w.heap.size,0,none⟩=some (.slice none 0 0):=(M.cell (by simp)).trans (by go_simp);have a4:wr.frozen? ⟨w.heap.size,0,none⟩=false:=(M.frozen (by simp)).trans (by go_simp);by_cases a6:k<n
  ·have q0:=I.out.cell (i:=k*8) (by omega);have q1:=I.out.cell (i:=k*8+1) (by omega);have q2:=I.out.cell (i:=k*8+2) (by omega);have q3:=I.out.cell (i:=k*8+3) (by omega);have q4:=I.out.cell (i:=k*8+4) (by omega);have q5:=I.out.cell (i:=k*8+5) (by omega);have q6:=I.out.cell (i:=k*8+6) (by omega);have q7:=I.out.cell (i:=k*8+7) (by omega);have a5:=I.out.frozen
   go_wp2_with (go_at_call 75;refine(zfL _ _).mono ?_;rintro e w' ⟨rfl,rfl⟩)
   go_roundg (n-(k+1))
   case measure=>omega
   case rel =>
    refine⟨k+1,_,by omega,by omega,by go_num,?_,by simp;omega,(zlx I.out (k*8) _ _ _ _ _ _ _ _).alloc _,(show Hid _ from fun i O=>?_)⟩
    ·exact((((((((M.setCell (by simp) _).setCell (by simp) _).setCell (by simp) _).setCell (by simp) _).setCell (by simp) _).setCell (by simp) _).setCell (by simp) _).setCell (by simp) _).alloc (by simp;omega) _
    ·by_cases e:i=k
     ·subst e;unfold zmA;refine⟨?_,?_,?_,?_,?_,?_,?_,?_⟩
      ·rw[ya (by omega),ya (by omega),ya (by omega),ya (by omega),ya (by omega),ya (by omega),ya (by omega),yd rfl]
      ·rw[ya (by omega),ya (by omega),ya (by omega),ya (by omega),ya (by omega),ya (by omega),yd rfl]
      ·rw[ya (by omega),ya (by omega),ya (by omega),ya (by omega),ya (by omega),yd rfl]
      ·rw[ya (by omega),ya (by omega),ya (by omega),ya (by omega),yd rfl]
      ·rw[ya (by omega),ya (by omega),ya (by omega),yd rfl]
      ·rw[ya (by omega),ya (by omega),yd rfl]
      ·rw[ya (by omega),yd rfl]
      ·rw[yd rfl]
     ·obtain⟨U,e1,e2,e3,e4,e5,V,Z⟩:=A.out i (by omega);refine⟨?_,?_,?_,?_,?_,?_,?_,?_⟩
      all_goals
       rw[put8_other (by omega)];assumption
  ·have:k=n:=by omega
   subst this
   go_wp2
   refine yq (v:=.tuple #[.agg #[.slice (some ⟨w.heap.size+1,0,none⟩) k k],.int .i64 0]) (by simp[results,Tryz.results27,go_sem,T]) rfl ⟨w.heap.size+1,rfl,?_,fun i O=>?_,by omega,by simp;omega⟩
   ·exact(((yj _ _).alloc (yi _) _).trans (M.mono (by omega))).setCell (yi _) _
   ·have J:i<k:=by simpa using O
    have D:=I.out.setOther (a:=⟨w.heap.size,0,none⟩) (by simp) (.slice (some ⟨w.heap.size+1,0,none⟩) k k);obtain⟨U,e1,e2,e3,e4,e5,V,Z⟩:=A.out i J;rw[zem k i _ J];refine⟨w.heap.size+1,0,rfl,?_⟩;rw[yv];refine⟨?_,?_,?_,?_,?_,⟨none,0,?_,fun j hj=>absurd hj (yr _)⟩,?_,?_⟩
    ·rw[D.cell (by omega),U];rfl
    ·rw[D.cell (by omega),e1];rfl
    ·rw[D.cell (by omega),e2];rfl
    ·rw[D.cell (by omega),e3];rfl
    ·rw[D.cell (by omega),e4];rfl
    ·rw[D.cell (by omega),e5];rfl
    ·rw[D.cell (by omega),V];rfl
    ·rw[D.cell (by omega),Z];rfl
theorem zay(S:List Nd)(k i:Nat)(x:Nd)(w:k<S.length):nd (S.set k x) i=if i=k then x else nd S i:=by
 unfold nd;by_cases e:i=k
 ·subst e;simp[List.getD,w]
 ·rw[ya e];simp[List.getD,Ne.symm e]
theorem Own.turned{w w' : World}{B g:Nat}{S S' : List Nd}{kb kc:Nat->Nat}(h:Own w B g S kb kc S.length)(hl:S'.length=S.length){V:Nat->Value}(D:w'.rowIs g 47 (S.length*8) V)
  (hN:∀ F,w.rowIs g 47 (S.length*8) F->(∀ i,i<S.length->NdR w F (i*8) (nd S i) (kb i) (kc i))->(∀ i,i<S.length->g<kb i)->∀ i,i<S.length->∃ A I,NdR w' V (i*8) (nd S' i) A I/\g<=A):∀ w3:World,(∀ b,g<=b->w3.heap[b]?=w'.heap[b]?)->zae w3 (some ⟨g,0,none⟩) S' := fun w3 J i hi=>by
 obtain⟨_,F,M,T,hg,_⟩:=h;obtain⟨A,I,⟨Z,e1,e2,e3,e4,e5,e6,e7,e8,a4,G,O,e9⟩,U⟩:=hN F M T hg i (by omega);have hG:=O.of_block (J A U);replace D:=D.of_block (J g (yi _));refine⟨g,0,rfl,?_⟩;rw[yv];refine⟨?_,?_,?_,?_,?_,⟨some ⟨A,0,none⟩,I,?_,fun j hj=>⟨A,0,rfl,?_⟩⟩,?_,?_⟩
 ·rw[D.cell (by omega),Z]
 ·rw[D.cell (by omega),e1]
 ·rw[D.cell (by omega),e2]
 ·rw[D.cell (by omega),e3]
 ·rw[D.cell (by omega),e4]
 ·rw[D.cell (by omega),e5]
 ·rw[yv,hG.cell (by omega),e9 j hj]
 ·rw[D.cell (by omega),e6]
 ·rw[D.cell (by omega),e7]
theorem zbU{w A:World}{a:Option Addr}{n c:Nat}(D:Below (w.heap.size+1+1+1) (((w.alloc (.cells #[.slice a n c] 24)).alloc (.cells #[.slice none 0 0] 24)).alloc (.cells #[.int .i64 0,.int .i64 0] 39)) A) :
  A.cell? ⟨w.heap.size,0,none⟩=some (.slice a n c)/\A.cell? ⟨w.heap.size+1,0,none⟩=some (.slice none 0 0)/\A.cell? ⟨w.heap.size+1+1,0,none⟩=some (.int .i64 0)/\A.cell? ⟨w.heap.size+1+1,1,none⟩=some (.int .i64 0) /\
  A.frozen? ⟨w.heap.size+1,0,none⟩=false/\A.frozen? ⟨w.heap.size+1+1,0,none⟩=false/\A.frozen? ⟨w.heap.size+1+1,1,none⟩=false :=
 ⟨(D.cell (by simp;omega)).trans (by go_simp),(D.cell (by simp)).trans (by go_simp),(D.cell (by simp)).trans (by go_simp),(D.cell (by simp)).trans (by go_simp),(D.frozen (by simp)).trans (by go_simp),(D.frozen (by simp)).trans (by go_simp),(D.frozen (by simp)).trans (by go_simp)⟩
theorem zal(w:World)(o1 A o3:Obj):Below w.heap.size w (((w.alloc o1).alloc A).alloc o3):=((((yj _ _).alloc (yi _) _).alloc (by simp) _).alloc (by simp;omega) _)
def zbq(x:Nd)(t:Int):Nd:=⟨true,x.n+1,t,x.m,x.p,x.ks,x.h,x.c⟩
def zef(S:List Nd)(ch w:Nat):Bool:=decide ((nd S ch).h = -1) && (!decide ((w:Int)=ch) && !zbm S w ch)
theorem zhR(a:Option Addr)(c:Nat)(S:List Nd)(ch A:Nat)(w:World)(V:S.length<=9223372036854775807)(hc:ch<S.length)(F:zae w a S) :
  Calls Tryz.prog 133 #[.agg #[.slice a S.length c],.int .i64 ch,.int .i64 A] w fun e w' => e=.returned (.bool (zef S ch A))/\Below w.heap.size w w' := by
 unfold zef;have J:=fun(W:World) (Z:zae W a S)=>zjC a c S A ch W V Z;have M:Hid _:=J;have O:Hid (zae w a S):=F;have a5:(ch:Int)<(S.length:Int):=by omega
 obtain⟨b,o,rfl,c0,_,_,_,_,_,c6,_⟩:=F ch hc;have a4:=ye _ _ c0;clear F J;generalize zbm S A ch=b3 at *;generalize (nd S ch).h=hh at *;generalize S.length=n at *;by_cases h1:hh = -1
 ·subst h1;by_cases D:(A:Int)=ch
  ·have e:decide ((A:Int)=ch)=true:=decide_eq_true D;have U:A=ch:=by omega
   subst U;rw[e];simp only[decide_true,Bool.not_true,Bool.false_and,Bool.and_false]
   go_enter Tryz.func133,Tryz.ntmps133
   go_wp2
   go_ret;exact⟨rfl,(yj _ _).alloc (yi _) _⟩
  ·have e:decide ((A:Int)=ch)=false:=decide_eq_false D;rw[e];have e1:((A:Int) ==(ch:Int))=false:=beq_eq_false_iff_ne.2 D;have e2:((A:Int) !=(ch:Int))=true:=by simp[bne,e1]
   have T:¬ A=ch:=by omega
   simp only[decide_true,Bool.not_false,Bool.true_and];cases b3
   all_goals
    go_enter Tryz.func133,Tryz.ntmps133
    go_wp2_with (go_at_call 98;refine(M.out _ (O.out.below ((yj _ _).alloc (yi _) _))).mono ?_;rintro e w1 ⟨rfl,I⟩)
    go_ret;exact⟨rfl,((yj _ _).alloc (yi _) _).trans (I.mono (by simp))⟩
 ·have e:decide (hh = -1)=false:=decide_eq_false h1;have e1:(hh == -1)=false:=beq_eq_false_iff_ne.2 h1;rw[e];simp only[Bool.false_and]
  go_enter Tryz.func133,Tryz.ntmps133
  go_wp2
  go_ret;exact⟨rfl,(yj _ _).alloc (yi _) _⟩
theorem zjZ(ha:Option Addr)(hc:Nat)(hs:List (Int × Int))(p u:Int)(w:World)(hL:hs.length<=9223372036854775807)(hH:zam w ha hs) :
  Calls Tryz.prog 144 #[.slice ha hs.length hc,.agg #[.int .i64 p,.int .i64 u]] w fun e w' => ∃ r:Int,e=.returned (.int .i64 r)/\Below w.heap.size w w' /\((0<=r)↔(p,u) ∈ hs):=by
 have HH:Hid (zam w ha hs):=hH;have IN:Hid (∀ k,k<hs.length->hs.getD k (0,0)=(p,u)->(p,u) ∈ hs):=fun k hk h=>by rw[<- h,zaf hs _ hk];exact List.getElem_mem hk
 have a4:Hid ((∀ k,k<hs.length->hs.getD k (0,0)≠(p,u))->(p,u) ∉ hs):=fun h M=>by
  obtain⟨i,F,e⟩:=List.getElem_of_mem M;exact h i F (by rw[zaf hs _ F];exact e)
 clear hH;generalize M:hs.length=m at *;have HM:Hid _:=M;clear M;generalize ((p,u) ∈ hs)=Q at *
 go_enter Tryz.func144,Tryz.ntmps144
 go_wp2
 go_loopg [8] m (fun g s8 wr=>∃ k:Nat,k<=m/\m-k<=g/\s8=.int .i64 k/\Below (w.heap.size+1) (w.alloc (.cells #[.int .i64 p,.int .i64 u] 39)) wr/\Hid (∀ i,i<k->hs.getD i (0,0)≠(p,u)))
 case atStart=>exact⟨0,by omega,by omega,rfl,yj _ _,(show Hid _ from fun i F=>absurd F (yr _))⟩
 case round =>
  obtain⟨k,hk,hg,rfl,I,A⟩:=hrel;have D:Below w.heap.size w wr:=((yj _ _).alloc (yi _) _).trans (I.mono (by omega));have x0:wr.cell? ⟨w.heap.size,0,none⟩=some (.int .i64 p):=(I.cell (by simp)).trans (by go_simp);have x1:wr.cell? ⟨w.heap.size,1,none⟩=some (.int .i64 u):=(I.cell (by simp)).trans (by go_simp);by_cases J:k<m
  ·have a5:(k:Int)<(m:Int):=by omega
   obtain⟨b,o,rfl,c0,c1⟩:=(HH.out.below D) k (by rw[HM.out];exact J);generalize hy:hs.getD k (0,0)=y at *;obtain⟨O,T⟩:=y;dsimp only at c0 c1;have U:Hid _:=hy;clear hy;by_cases e1:p=O
   ·by_cases e2:u=T
    ·subst e1;subst e2;have Z:Hid _:=IN.out k J U.out
     go_wp2_with fail
     go_quiet (fail)
     go_wp2
     go_ret;exact⟨k,rfl,Below.drewNs D _,fun _=>Z.out,fun _=>by omega⟩
    ·have e3:(u == T)=false:=beq_eq_false_iff_ne.2 e2;have V:Hid ((O,T)≠(p,u)):=fun h=>e2 (by cases h;rfl);subst e1
     go_wp2_with fail
     go_quiet (fail)
     go_wp2
     go_roundg (m-(k+1))
     case measure=>omega
     case rel =>
      refine⟨k+1,by omega,by omega,by go_num,Below.drewNs I _,(show Hid _ from fun i F=>?_)⟩;by_cases e:i=k
      ·rw[e,U.out];exact V.out
      ·exact A.out i (by omega)
   ·have e3:(p == O)=false:=beq_eq_false_iff_ne.2 e1;have V:Hid ((O,T)≠(p,u)):=fun h=>e1 (by cases h;rfl)
    go_wp2_with fail
    go_quiet (fail)
    go_wp2
    go_roundg (m-(k+1))
    case measure=>omega
    case rel =>
     refine⟨k+1,by omega,by omega,by go_num,Below.drewNs I _,(show Hid _ from fun i F=>?_)⟩;by_cases e:i=k
     ·rw[e,U.out];exact V.out
     ·exact A.out i (by omega)
  ·have:k=m:=by omega
   subst this;have Z:Hid _:=a4.out A.out
   go_wp2
   go_ret;exact⟨-1,rfl,D,fun h=>by omega,fun h=>absurd h Z.out⟩
def ins(ks:List Int)(i:Nat)(c:Int):List Int:=ks.take i++c :: ks.drop i
theorem zeF(ks:List Int)(i:Nat)(c:Int)(h:i<=ks.length):(ins ks i c).length=ks.length+1:=by
 simp[ins];omega
theorem zhU(ks:List Int)(i j:Nat)(c:Int)(h:i<=ks.length)(w:j<i):(ins ks i c).getD j 0=ks.getD j 0:=by
 simp[ins,List.getD,List.getElem?_append,w];rw[yd (by omega)]
theorem zgf(ks:List Int)(i:Nat)(c:Int)(h:i<=ks.length):(ins ks i c).getD i 0=c:=by
 simp[ins,List.getD,Nat.min_eq_left h]
theorem zlc(ks:List Int)(i j:Nat)(c:Int)(h:i<=ks.length)(w:i<j):(ins ks i c).getD j 0=ks.getD (j-1) 0:=by
 have e:j-i=(j-1-i)+1:=by omega
 simp[ins,List.getD,List.getElem?_append,Nat.min_eq_left h];rw[ya (by omega),e,List.getElem?_cons_succ,List.getElem?_drop,show i+(j-1-i)=j-1 by omega]
theorem zbK{b t n:Nat}:∀ (A:List Value) (o:Nat) (w:World) (F:Nat->Value),w.rowIs b t n F->(w.setCells b o A).rowIs b t n (fun j=>if o<=j/\j<o+A.length then A.getD (j-o) undef else F j)
 | [],o,w,F,h=>h.congr (fun j _=>by rw[ya];simp)
 | v :: r,o,w,F,h=>by
  refine(zbK r (o+1) (w.setCell ⟨b,o,none⟩ v) _ (h.set o v)).congr (fun j _=>?_);by_cases e:j=o
  ·subst e;rw[ya (by omega),yd rfl,yd (by simp)];simp
  ·by_cases e2:o+1<=j/\j<o+1+r.length
   ·rw[yd e2,yd (by simp;omega),show j-o=(j-(o+1))+1 by omega];simp
   ·rw[ya e2,ya e,ya (by simp;omega)]
theorem zbJ{X:Nat->Prop}{b:Nat}(A:X b):∀ (D:List Value) (o:Nat) (w:World),Off X w (w.setCells b o D)
 | [],_,w=>Off.refl _ w
 | v :: r,o,w=>by
  have step:Off X w (w.setCell ⟨b,o,none⟩ v):=⟨rfl,rfl,rfl,by simp,fun k _ hx=>yo w ⟨b,o,none⟩ v k (fun e=>hx (by rw[e];exact A))⟩;exact step.trans (zbJ A r (o+1) (w.setCell ⟨b,o,none⟩ v))
theorem Off.drew{X:Nat->Prop}{w w' : World}(h:Off X w w'):Off X w w'.drew:=⟨h.os,h.tape,h.output,h.size,h.block⟩
theorem Off.mono{X Y:Nat->Prop}{w w' : World}(h:Off X w w')(A:∀ k,k<w.heap.size->X k->Y k):Off Y w w' :=⟨h.os,h.tape,h.output,h.size,fun k D hy=>h.block k D (fun hx=>hy (A k D hx))⟩
def zfa(w:World)(kb:Nat)(l:List Int)(e:Ending)(w' : World):Prop :=
 ∃ A D,e=.returned (.slice (some ⟨A,0,none⟩) l.length D)/\l.length<=D/\(A=kb\/w.heap.size<=A)/\Off (fun b=>b=kb) w w' /\ ∃ G,w'.rowIs A 3 D G/\∀ j,j<l.length->G j=.int .i64 (l.getD j 0)
theorem zhW{ks:List Int}{j:Nat}{v:Value}(h:(ks.map (Value.int .i64))[j]?=some v):j<ks.length/\v=.int .i64 (ks.getD j 0):=by
 obtain⟨hl,A⟩:=List.getElem?_eq_some_iff.1 h;have w:j<ks.length:=by simpa using hl
 refine⟨w,?_⟩;rw[<- A,List.getElem_map,zaf ks 0 w]
theorem ziR(kb L kc Z i:Nat)(ks:List Int)(ch:Int)(w:World)(I:ks.length=L)(hi:i<L)(a5:kc=L)(a6:L<=1000)(G:Nat->Value)(hG:w.rowIs kb 3 kc G)(M:∀ j,j<L->G j=.int .i64 (ks.getD j 0))(F:w.cell? ⟨Z,0,none⟩=some (.int .i64 ch)) :
  Calls Tryz.prog 145 #[.slice (some ⟨kb,0,none⟩) L kc,.int .i64 i,.slice (some ⟨Z,0,none⟩) 1 1] w (zfa w kb (ins ks i ch)):=by
 have h:=Any2.slices_Insert_int_grow (P:=Tryz.prog) (ρ:=Tryz.lays21_ren) Tryz.lays21 kb 0 L kc i Z 0 1 1 (ks.map (Value.int .i64)) [.int .i64 ch] w hi (by omega) (by omega) (by omega) (by omega) (by simpa using I) rfl
  (fun j v D=>by
   obtain⟨h1,rfl⟩:=zhW D;rw[yv,hG.cell (by omega),M j (by omega)])
  (fun j v D=>by
   match j,D with
   | 0,D=>simp at D;subst D;simpa using F)
  (fun v F=>by simp at F;obtain⟨y,_,rfl⟩:=F;rfl) (fun v F=>by simp at F;subst F;rfl)
 refine yf (show Calls Tryz.prog 145 _ _ _ from h) ?_;rintro e w' ⟨rfl,rfl⟩;have a4:=grownCap_ge w (L+1) kc (Tryz.lays21_ren.t 3);have hl:=zeF ks i ch (by omega);generalize grownCap w (L+1) kc (Tryz.lays21_ren.t 3)=cap at *;refine⟨w.heap.size,cap,by rw[hl,I],by omega,Or.inr (yi _),?_,?_⟩
 ·refine Off.mono (X:=fun b=>b=w.heap.size) ?_ (fun k hk e=>by omega);exact(((Off.of_below ((yj _ _).alloc (yi _) _)).drew.trans (zbJ (X:=fun b=>b=w.heap.size) rfl _ _ _)).drew).trans (zbJ (X:=fun b=>b=w.heap.size) rfl _ _ _)
 ·have hA:(((ks.map (Value.int .i64)).take i).toArray++Builtin.zeroCells (Value.int .i64 0).cells (L+1-i)++Builtin.zeroCells (Value.int .i64 0).cells (cap-(L+1))).size=cap:=by
   simp[size_zeroCells,Value.cells,I];omega
  have J:∀ j,j<i->(((ks.map (Value.int .i64)).take i).toArray++Builtin.zeroCells (Value.int .i64 0).cells (L+1-i)++Builtin.zeroCells (Value.int .i64 0).cells (cap-(L+1)))[j]?=some (.int .i64 (ks.getD j 0)):=fun j D=>by
   have T:j<ks.length:=by omega
   rw[Array.getElem?_append_left (by simp;omega),Array.getElem?_append_left (by simp;omega)];simp[D,T]
  generalize (((ks.map (Value.int .i64)).take i).toArray++Builtin.zeroCells (Value.int .i64 0).cells (L+1-i)++Builtin.zeroCells (Value.int .i64 0).cells (cap-(L+1)))=A at *;have hr:=World.rowIs_alloc w A 3 (fun j=>A[j]?.getD undef) (fun j D=>by simp[D]);rw[hA] at hr;have U:=zbK [.int .i64 ch] i _ _ hr.drew;have V:=zbK ((ks.map (Value.int .i64)).drop i) (i+1) _ _ U.drew;refine⟨_,V,fun j D=>?_⟩;rw[hl,I] at D;have O:((ks.map (Value.int .i64)).drop i).length=L-i:=by simp[I]
  by_cases h1:i<j
  ·rw[yd (by rw[O];omega),zlc ks i j ch (by omega) h1,zaf ks 0 (by omega)];have:i+(j-(i+1))=j-1:=by omega
   simp[List.getD,this,show j-1<ks.length by omega]
  ·rw[ya (by omega)];by_cases h2:j=i
   ·subst h2;rw[yd (by simp),zgf ks j ch (by omega)];simp
   ·rw[ya (by simp;omega),zhU ks i j ch (by omega) (by omega),J j (by omega)];rfl
theorem zkf(kb L kc T:Nat)(ks:List Int)(ch:Int)(w:World)(F:ks.length=L)(a4:kc=L)(a5:L<=1000)(G:Nat->Value)(Z:w.rowIs kb 3 kc G)(M:∀ j,j<L->G j=.int .i64 (ks.getD j 0))(J:w.cell? ⟨T,0,none⟩=some (.int .i64 ch)) :
  Calls Tryz.prog 145 #[.slice (some ⟨kb,0,none⟩) L kc,.int .i64 L,.slice (some ⟨T,0,none⟩) 1 1] w (zfa w kb (ins ks L ch)):=by
 have h:=Any2.slices_Insert_int_end_grow (P:=Tryz.prog) (ρ:=Tryz.lays21_ren) Tryz.lays21 (some ⟨kb,0,none⟩) L kc T 0 1 1 (ks.map (Value.int .i64)) [.int .i64 ch] w (by omega) (by omega) (by omega) (by omega) (by simpa using F) rfl (fun h=>by cases h)
  (fun a ha j v D=>by
   cases ha;obtain⟨h1,rfl⟩:=zhW D;rw[Addr.add_lit,yv,Z.cell (by omega),M j (by omega)])
  (fun j v D=>by
   match j,D with
   | 0,D=>simp at D;subst D;simpa using J)
  (fun v J=>by simp at J;subst J;rfl)
 refine yf (show Calls Tryz.prog 145 _ _ _ from h) ?_;rintro e w' ⟨rfl,rfl⟩;have U:=grownCap_ge w (L+1) kc (Tryz.lays21_ren.t 3);have hl:=zeF ks L ch (by omega);generalize grownCap w (L+1) kc (Tryz.lays21_ren.t 3)=cap at *;refine⟨w.heap.size,cap,by rw[hl,F],by omega,Or.inr (yi _),?_,?_⟩
 ·exact Off.of_below ((yj _ _).drew.alloc (yi _) _)
 ·have V:((ks.map (Value.int .i64)++[Value.int .i64 ch]).toArray++Builtin.zeroCells (Value.int .i64 0).cells (cap-(L+1))).size=cap:=by
   simp[size_zeroCells,Value.cells,F];omega
  have I:∀ j,j<L+1->((ks.map (Value.int .i64)++[Value.int .i64 ch]).toArray++Builtin.zeroCells (Value.int .i64 0).cells (cap-(L+1)))[j]?=some (.int .i64 ((ins ks L ch).getD j 0)):=fun j D=>by
   rw[Array.getElem?_append_left (by simp;omega)];by_cases e:j=L
   ·rw[e,zgf ks L ch (by omega),<- F];simp
   ·have O:j<ks.length:=by omega
    rw[zhU ks L j ch (by omega) (by omega)];simp[List.getElem?_append,O]
  generalize ((ks.map (Value.int .i64)++[Value.int .i64 ch]).toArray++Builtin.zeroCells (Value.int .i64 0).cells (cap-(L+1)))=A at *;have hr:=World.rowIs_alloc w.drew A 3 (fun j=>A[j]?.getD undef) (fun j D=>by simp[D]);rw[V] at hr;refine⟨_,hr,fun j D=>?_⟩;rw[hl,F] at D;rw[I j D];rfl
end Go.Proofs.YtgjfmepbphfjoaaGreat
