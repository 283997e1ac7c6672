/-
  x
-/
import Derived.Test.YtcbcpomacdngmaaGreatM4
namespace Go.Proofs.YtcbcpomacdngmaaGreat
set_option maxRecDepth 100000
set_option maxHeartbeats 4000000
set_option linter.unusedVariables false
open Go.RowKit
theorem Own.below{w w' : World}{B g k:Nat}{S:List Nd}{kb kc:Nat->Nat}(h:Own w B g S kb kc k)(I:Below w.heap.size w w'):Own w' B g S kb kc k:=by
 obtain⟨J,F,D,E,hg,hd⟩:=h;exact⟨J,F,D.of_block (I.block g D.lt),fun i hi=>(E i hi).below I (E i hi).row,hg,hd⟩
theorem Own.setOther{w:World}{B g k:Nat}{S:List Nd}{kb kc:Nat->Nat}(h:Own w B g S kb kc k){a:Addr}(ha:a.block<g)(v:Value):Own (w.setCell a v) B g S kb kc k:=by
 obtain⟨hB,F,hF,hN,hg,hd⟩:=h;refine⟨hB,F,hF.setOther (by omega) v,fun i hi=>?_,hg,hd⟩;obtain⟨E,I,J,M,O,T,U,Z,e8,D,G,hG,e9⟩:=hN i hi;exact⟨E,I,J,M,O,T,U,Z,e8,D,G,hG.setOther (by have:=hg i hi;omega) v,e9⟩
def RNd(S:List Nd)(i:Nat)(y:ENd)(lo hi:Nat)(V:World):Prop :=
 y.u=(nd S i).u/\y.n=(nd S i).n/\y.t=(nd S i).t/\y.m=(nd S i).m/\y.p=(nd S i).p/\y.h=(nd S i).h/\y.c=(nd S i).c/\y.kl=(nd S i).ks.length/\y.kc=(nd S i).ks.length/\∃ kb,y.ka=some ⟨kb,0,none⟩/\lo<=kb/\kb<hi/\V.rowIs kb 3 (nd S i).ks.length (fun j=>.int .i64 ((nd S i).ks.getD j 0))
theorem zwx{w:World}{B g:Nat}{S:List Nd}(hB:B<=g)(hK:∀ i,i<S.length->(nd S i).ks.length<=1000)(h:zaA zyZ 57 8 S.length (RNd S) g S.length w):∃ kb kc,Own w B g S kb kc S.length:=by
 obtain⟨v,lo,hi,F,hF,E⟩:=h
 have key:∀ i,i<S.length->(v i).ka=some ⟨((v i).ka.getD ⟨0,0,none⟩).block,0,none⟩/\lo i<=((v i).ka.getD ⟨0,0,none⟩).block/\((v i).ka.getD ⟨0,0,none⟩).block<hi i:=fun i D=>by
  obtain⟨_,_,_,_,_,_,_,_,_,kb,e,h1,h2,_⟩:=(E i D).2.2.2.2.2.at;rw[e];exact⟨rfl,h1,h2⟩
 refine⟨fun i=>((v i).ka.getD ⟨0,0,none⟩).block,fun i=>(nd S i).ks.length,hB,F,hF,fun i D=>?_,fun i D=>?_,fun i D j J e=>?_⟩
 ·obtain⟨h1,_,_,_,_,h6⟩:=E i D;obtain⟨M,O,T,U,Z,e6,e7,el,ec,kb,I,_,_,hr⟩:=h6.at;refine⟨?_,?_,?_,?_,?_,?_,?_,?_,yj _,hK i D,_,?_,fun j _=>rfl⟩
  ·exact(h1 0 (by omega)).trans (congrArg Value.bool M)
  ·exact(h1 1 (by omega)).trans (congrArg (Value.int .i64) O)
  ·exact(h1 2 (by omega)).trans (congrArg (Value.int .i64) T)
  ·exact(h1 3 (by omega)).trans (congrArg (Value.int .i64) U)
  ·exact(h1 4 (by omega)).trans (congrArg (Value.int .i64) Z)
  ·refine(h1 5 (by omega)).trans ?_;show Value.slice (v i).ka (v i).kl (v i).kc=Value.slice (some ⟨((v i).ka.getD ⟨0,0,none⟩).block,0,none⟩) (nd S i).ks.length (nd S i).ks.length;rw[el,ec,I];rfl
  ·exact(h1 6 (by omega)).trans (congrArg (Value.int .i64) e6)
  ·exact(h1 7 (by omega)).trans (congrArg Value.bool e7)
  ·show w.rowIs ((v i).ka.getD ⟨0,0,none⟩).block _ _ _;rw[I];exact hr
 ·have:=(E i D).2.1;have:=(key i D).2.1;show g<((v i).ka.getD ⟨0,0,none⟩).block;omega
 ·have k1:=(key i D).2;have k2:=(key j J).2;rcases Nat.lt_trichotomy i j with h|h|h
  ·have:=(E j J).2.2.2.2.1 i h;dsimp only at e;omega
  ·exact h
  ·have:=(E i D).2.2.2.2.1 j h;dsimp only at e;omega
theorem zqm(a:Option Addr)(c:Nat)(S:List Nd)(w:World)(hN:S.length<=24)(hK:∀ i,i<S.length->(nd S i).ks.length<=1000)(O:zah w a S) :
  yL 133 #[.slice a S.length c,.func (.func 44) #[] #[]] w fun e w' => e=.returned (.slice (some ⟨w.heap.size,0,none⟩) S.length S.length)/\Below w.heap.size w w' /\ zaA zyZ 57 8 S.length (RNd S) w.heap.size S.length w' := by
 obtain⟨f,I⟩:=Classical.skolem.1 (fun i=>show ∃ x:Option Addr × Nat,i<S.length->(∃ b o,a=some ⟨b,o,none⟩/\w.cell? ⟨b,o+i*8,none⟩=some (.bool (nd S i).u)/\w.cell? ⟨b,o+i*8+1,none⟩=some (.int .i64 (nd S i).n)/\w.cell? ⟨b,o+i*8+2,none⟩=some (.int .i64 (nd S i).t)/\w.cell? ⟨b,o+i*8+3,none⟩=some (.int .i64 (nd S i).m)/\w.cell? ⟨b,o+i*8+4,none⟩=some (.int .i64 (nd S i).p)/\w.cell? ⟨b,o+i*8+5,none⟩=some (.slice x.1 (nd S i).ks.length x.2)/\w.cell? ⟨b,o+i*8+6,none⟩=some (.int .i64 (nd S i).h)/\w.cell? ⟨b,o+i*8+7,none⟩=some (.bool (nd S i).c))/\zal w x.1 (nd S i).ks by
  by_cases hi:i<S.length
  ·obtain⟨b,o,e,c0,c1,c2,c3,c4,⟨ka,kc,c5,E⟩,J,M⟩:=O i hi;exact⟨(ka,kc),fun _=>⟨⟨b,o,e,c0,c1,c2,c3,c4,c5,J,M⟩,E⟩⟩
  ·exact⟨(none,0),fun h=>absurd h hi⟩)
 refine zzo 44 (yJ Tryz.func44 (by kernel_rfl) rfl) a c S.length (fun i=>⟨(nd S i).u,(nd S i).n,(nd S i).t,(nd S i).m,(nd S i).p,(f i).1,(nd S i).ks.length,(f i).2,(nd S i).h,(nd S i).c⟩) (RNd S) w (by omega) (fun i hi=>(I i hi).1) (fun i hi W T=>?_);refine(zhZ (nd S i) (f i).1 (f i).2 W (by have:=hK i hi;omega) ((I i hi).2.below T)).mono ?_;rintro e w' ⟨g,rfl,U,hg,D⟩;refine⟨⟨(nd S i).u,(nd S i).n,(nd S i).t,(nd S i).m,(nd S i).p,some ⟨g,0,none⟩,(nd S i).ks.length,(nd S i).ks.length,(nd S i).h,(nd S i).c⟩,rfl,U,fun w2 Z=>⟨rfl,rfl,rfl,rfl,rfl,rfl,rfl,rfl,rfl,g,rfl,hg,D.lt,D.of_block (Z.block g D.lt (fun F=>?_))⟩⟩;have:=D.lt;rcases F with F|F <;> omega
theorem copy_any(a:Option Addr)(c:Nat)(S:List Nd)(w:World)(hN:S.length<=24)(hK:∀ i,i<S.length->(nd S i).ks.length<=1000)(I:zah w a S) :
  yL 102 #[.agg #[.slice a S.length c]] w fun e w' => ∃ g kb kc,e=.returned (.agg #[.slice (some ⟨g,0,none⟩) S.length S.length])/\Below w.heap.size w w' /\ Own w' w.heap.size g S kb kc S.length:=by
 have D:Hid (∀ J M,Calls _ _ _ _ _):=fun J M=>zqm a c S ((w.alloc J).alloc M) hN hK (I.below (zam _ _ _));have U:Hid (∀ V,zaA zyZ 57 8 S.length (RNd S) (w.heap.size+1+1) S.length V->∃ kb kc,Own V w.heap.size (w.heap.size+1+1) S kb kc S.length):=fun V h=>zwx (by omega) hK h;clear I hK;simp only[yr] at D;generalize S.length=n at *
 go_enter Tryz.func102,Tryz.ntmps102
 go_wp2_with (go_at_call 133;refine(D.out _ _).mono ?_;rintro e w3 ⟨rfl,E,F⟩;have Z:Hid _:=F;clear F;have y1:w3.cell? ⟨w.heap.size+1,0,none⟩=some (.slice none 0 0):=(E.cell (by simp)).trans (by go_simp);have y2:∀ o,w3.frozen? ⟨w.heap.size+1,o,none⟩=false:=fun o=>(E.frozen (by simp)).trans (by go_simp);have T:Hid (Below w.heap.size w w3):=(zam _ _ _).trans (E.mono (by omega));clear E)
 obtain⟨kb,kc,O⟩:=U.out w3 Z.out;refine yv (v:=.agg #[.slice (some ⟨w.heap.size+1+1,0,none⟩) n n]) (by simp[results,Tryz.results102,go_sem,y1]) rfl ⟨w.heap.size+1+1,kb,kc,rfl,T.out.setCell (by simp) _,O.setOther (by simp) _⟩
theorem zkF(x:Nd)(k:Value)(w:World) :
  yL 195 #[.agg #[.bool x.u,.int .i64 x.n,.int .i64 x.t,.int .i64 x.m,.int .i64 x.p,k,.int .i64 x.h,.bool x.c]] w fun e w' => e=.returned (.bool (!x.u && decide (x.n<1000000)))/\Below w.heap.size w w' := by
 obtain⟨u,n,t,m,p,ks,h,c⟩:=x;dsimp only;cases u
 ·by_cases hn:n<1000000
  ·have hd:(!false && decide (n<1000000))=true:=(by simp[hn]);rw[hd];clear hd
   go_enter Tryz.func195,Tryz.ntmps195
   go_wp2
   go_ret;exact⟨rfl,(yk _ _).alloc (yj _) _⟩
  ·have hd:(!false && decide (n<1000000))=false:=(by simp[hn]);rw[hd];clear hd
   go_enter Tryz.func195,Tryz.ntmps195
   go_wp2
   go_ret;exact⟨rfl,(yk _ _).alloc (yj _) _⟩
 ·go_enter Tryz.func195,Tryz.ntmps195
  go_wp2
  go_ret;exact⟨rfl,(yk _ _).alloc (yj _) _⟩
def zcn(x:Nd):Bool:=!x.u && decide (x.n<1000000)
theorem zmC(a:Option Addr)(c:Nat)(S:List Nd)(w:World)(hn:S.length<=9223372036854775807)(O:zah w a S)(k:Nat)(hk:k<S.length)(T:zcn (nd S k)=true)(D:∀ i,i<k->zcn (nd S i)=false) :
  yL 194 #[.slice a S.length c,.func (.func 195) #[] #[]] w fun e w' => e=.returned (.int .i64 k)/\Below w.heap.size w w' := by
 have HS:Hid (zah w a S):=O;have Z:Hid _:=D;have I:Hid _:=T;clear O D T;generalize M:S.length=n at *;have HN:Hid _:=M;clear M
 go_enter Tryz.func194,Tryz.ntmps194
 go_wp2
 go_loopg [8] n (fun g s8 wr=>∃ i:Nat,i<=k/\n-i<=g/\s8=.int .i64 i/\Below w.heap.size w wr)
 case atStart=>exact⟨0,by omega,by omega,rfl,yk _ _⟩
 case round =>
  obtain⟨i,hi,hg,rfl,F⟩:=hrel;have J:i<n:=by omega
  have U:(i:Int)<(n:Int):=by omega
  obtain⟨b,o,rfl,c0,c1,c2,c3,c4,⟨ka,kc,c5,_⟩,c6,c7⟩:=(HS.out.below F) i (by rw[HN.out];exact J);have d1:=fun v W=>zkF (nd S i) v W;rw[show (!(nd S i).u && decide ((nd S i).n<1000000))=zcn (nd S i) from rfl] at d1;by_cases e:i=k
  ·subst e;rw[I.out] at d1;generalize nd S i=x at *
   go_wp2_with (go_at_call 195;refine(d1 _ _).mono ?_;rintro e w' ⟨rfl,E⟩)
   go_ret;exact⟨rfl,F.trans (E.mono F.size)⟩
  ·rw[Z.out i (by omega)] at d1;generalize nd S i=x at *
   go_wp2_with (go_at_call 195;refine(d1 _ _).mono ?_;rintro e w' ⟨rfl,E⟩)
   go_roundg (n-(i+1))
   case measure=>omega
   case rel=>exact⟨i+1,by omega,by omega,by go_num,F.trans (E.mono F.size)⟩
def zbe:Nd:=⟨false,0,0,0,-1,[],-1,false⟩
theorem zfo(n i:Nat)(x:Nd)(h:i<n):nd (List.replicate n x) i=x:=by
 rw[zbq (by simpa using h)];simp
theorem zwv(n:Nat)(w:World)(hn:n<=24) :
  yL 62 #[.int .i64 n] w fun e w' => ∃ g,e=.returned (.tuple #[.agg #[.slice (some ⟨g,0,none⟩) n n],.int .i64 0])/\Below w.heap.size w w' /\ zah w' (some ⟨g,0,none⟩) (List.replicate n zbe)/\w.heap.size<=g/\g<w'.heap.size:=by
 have a8:=ztv n (by omega)
 go_enter Tryz.func62,Tryz.ntmps62
 go_wp2_with (go_at_call 66;refine(zet _ _ _ _ (by omega) (by omega)).mono ?_;rintro e w' ⟨rfl,rfl⟩)
 go_loopg [14] n (fun g s14 wr=>∃ (k:Nat) (F:Nat->Value),k<=n/\n-k<=g/\s14=.int .i64 k/\Below (w.heap.size+1) (w.alloc (Obj.cells #[Value.slice none 0 0] 43)) wr/\w.heap.size+1<wr.heap.size/\Hid (wr.rowIs (w.heap.size+1) 57 (n*8) F)/\Hid (∀ i,i<k->F (i*8)=.bool false/\F (i*8+1)=.int .i64 0/\F (i*8+2)=.int .i64 0/\F (i*8+3)=.int .i64 0/\F (i*8+4)=.int .i64 (-1)/\F (i*8+5)=.slice none 0 0/\F (i*8+6)=.int .i64 (-1)/\F (i*8+7)=.bool false))
 case atStart =>
  refine⟨0,fun j=>zjP[j % 8]!,Nat.zero_le _,by omega,rfl,(yk _ _).alloc (by simp) _,by simp,?_,(show Hid _ from fun i hi=>absurd hi (yw _))⟩;have h:=zlS (w.alloc (Obj.cells #[Value.slice none 0 0] 43)) n;simp only[yr] at h;exact h
 case round =>
  obtain⟨k,F,hk,hg,rfl,J,a9,E,A⟩:=hrel;have M:wr.cell? ⟨w.heap.size,0,none⟩=some (.slice none 0 0):=(J.cell (by simp)).trans (by go_simp);have a5:wr.frozen? ⟨w.heap.size,0,none⟩=false:=(J.frozen (by simp)).trans (by go_simp);by_cases a7:k<n
  ·have q0:=E.out.cell (i:=k*8) (by omega);have q1:=E.out.cell (i:=k*8+1) (by omega);have q2:=E.out.cell (i:=k*8+2) (by omega);have q3:=E.out.cell (i:=k*8+3) (by omega);have q4:=E.out.cell (i:=k*8+4) (by omega);have q5:=E.out.cell (i:=k*8+5) (by omega);have q6:=E.out.cell (i:=k*8+6) (by omega);have q7:=E.out.cell (i:=k*8+7) (by omega);have a6:=E.out.frozen
   go_wp2_with (go_at_call 93;refine(zhU _ _).mono ?_;rintro e w' ⟨rfl,rfl⟩)
   go_roundg (n-(k+1))
   case measure=>omega
   case rel =>
    refine⟨k+1,_,by omega,by omega,by go_num,?_,by simp;omega,(zpH E.out (k*8) _ _ _ _ _ _ _ _).alloc _,(show Hid _ from fun i hi=>?_)⟩
    ·exact((((((((J.setCell (by simp) _).setCell (by simp) _).setCell (by simp) _).setCell (by simp) _).setCell (by simp) _).setCell (by simp) _).setCell (by simp) _).setCell (by simp) _).alloc (by simp;omega) _
    ·by_cases e:i=k
     ·subst e;unfold zrI;refine⟨?_,?_,?_,?_,?_,?_,?_,?_⟩
      ·rw[ya (by omega),ya (by omega),ya (by omega),ya (by omega),ya (by omega),ya (by omega),ya (by omega),yb rfl]
      ·rw[ya (by omega),ya (by omega),ya (by omega),ya (by omega),ya (by omega),ya (by omega),yb rfl]
      ·rw[ya (by omega),ya (by omega),ya (by omega),ya (by omega),ya (by omega),yb rfl]
      ·rw[ya (by omega),ya (by omega),ya (by omega),ya (by omega),yb rfl]
      ·rw[ya (by omega),ya (by omega),ya (by omega),yb rfl]
      ·rw[ya (by omega),ya (by omega),yb rfl]
      ·rw[ya (by omega),yb rfl]
      ·rw[yb rfl]
     ·obtain⟨O,T,U,Z,e4,e5,e6,e7⟩:=A.out i (by omega);refine⟨?_,?_,?_,?_,?_,?_,?_,?_⟩
      all_goals
       rw[zbU (by omega)];assumption
  ·have:k=n:=(by omega);subst this
   go_wp2
   refine yv (v:=.tuple #[.agg #[.slice (some ⟨w.heap.size+1,0,none⟩) k k],.int .i64 0]) (by simp[results,Tryz.results62,go_sem,M]) rfl ⟨w.heap.size+1,rfl,?_,fun i hi=>?_,by omega,by simp;omega⟩
   ·exact(((yk _ _).alloc (yj _) _).trans (J.mono (by omega))).setCell (yj _) _
   ·have I:i<k:=(by simpa using hi);have D:=E.out.setOther (a:=⟨w.heap.size,0,none⟩) (by simp) (.slice (some ⟨w.heap.size+1,0,none⟩) k k);obtain⟨O,T,U,Z,e4,e5,e6,e7⟩:=A.out i I;rw[zfo k i _ I];refine⟨w.heap.size+1,0,rfl,?_⟩;rw[yz];refine⟨?_,?_,?_,?_,?_,⟨none,0,?_,fun j hj=>absurd hj (yw _)⟩,?_,?_⟩
    ·rw[D.cell (by omega),O];rfl
    ·rw[D.cell (by omega),T];rfl
    ·rw[D.cell (by omega),U];rfl
    ·rw[D.cell (by omega),Z];rfl
    ·rw[D.cell (by omega),e4];rfl
    ·rw[D.cell (by omega),e5];rfl
    ·rw[D.cell (by omega),e6];rfl
    ·rw[D.cell (by omega),e7];rfl
theorem zcR(S:List Nd)(k i:Nat)(x:Nd)(D:k<S.length):nd (S.set k x) i=if i=k then x else nd S i:=by
 unfold nd;by_cases e:i=k
 ·subst e;simp[List.getD,D]
 ·rw[ya e];simp[List.getD,Ne.symm e]
theorem zdI{w w1:World}{a:Option Addr}{n c:Nat}(D:Below (w.heap.size+1+1+1) (((w.alloc (.cells #[.slice a n c] 43)).alloc (.cells #[.slice none 0 0] 43)).alloc (.cells #[.int .i64 0,.int .i64 0] 61)) w1) :
  w1.cell? ⟨w.heap.size,0,none⟩=some (.slice a n c)/\w1.cell? ⟨w.heap.size+1,0,none⟩=some (.slice none 0 0)/\w1.cell? ⟨w.heap.size+1+1,0,none⟩=some (.int .i64 0)/\w1.cell? ⟨w.heap.size+1+1,1,none⟩=some (.int .i64 0) /\
  w1.frozen? ⟨w.heap.size+1,0,none⟩=false/\w1.frozen? ⟨w.heap.size+1+1,0,none⟩=false/\w1.frozen? ⟨w.heap.size+1+1,1,none⟩=false :=
 ⟨(D.cell (by simp;omega)).trans (by go_simp),(D.cell (by simp)).trans (by go_simp),(D.cell (by simp)).trans (by go_simp),(D.cell (by simp)).trans (by go_simp),(D.frozen (by simp)).trans (by go_simp),(D.frozen (by simp)).trans (by go_simp),(D.frozen (by simp)).trans (by go_simp)⟩
theorem zas(w:World)(D E o3:Obj):Below w.heap.size w (((w.alloc D).alloc E).alloc o3):=((((yk _ _).alloc (yj _) _).alloc (by simp) _).alloc (by simp;omega) _)
def zbQ(x:Nd)(t:Int):Nd:=⟨true,x.n+1,t,x.m,x.p,x.ks,x.h,x.c⟩
structure WF (S:List Nd):Prop where
 small:S.length<=24
 node:∀ i,i<S.length->zfp S.length (nd S i)=0
 kids:zeS S
 hosts:zga S S.length
 noring:∀ i,i<S.length->zbv S i i=false
theorem zgj(N:Int):∀ l:List Nd,zcb N l=0↔∀ x ∈ l,zfp N x=0
 | []=>by simp[zcb]
 | x :: r=>by
  simp only[zcb,List.mem_cons];by_cases h:zfp N x=0
  ·rw[yb h,zgj N r];exact⟨fun H y D=>D.elim (fun e=>by rw[e];exact h) (H y),fun H y D=>H y (Or.inr D)⟩
  ·rw[ya h];exact⟨fun H=>absurd H h,fun H=>absurd (H x (Or.inl rfl)) h⟩
theorem zfz(S:List Nd):zbr S=0↔WF S:=by
 unfold zbr zuJ zur;constructor
 ·intro h
  split at h
  ·omega
  ·rename_i I
   split at h
   ·rename_i h1;rw[zgj] at h1
    split at h
    ·rename_i E
     split at h
     ·rename_i F
      split at h
      ·omega
      ·rename_i D;refine⟨by omega,fun i hi=>h1 _ (by rw[zbq hi];exact List.getElem_mem hi),of_decide_eq_true E,of_decide_eq_true F,fun i hi=>?_⟩;simp only[Bool.not_eq_true,List.any_eq_false,List.mem_range] at D;have:=D i hi;simpa using this
     ·omega
    ·omega
   ·exact absurd h (by assumption)
 ·rintro⟨h0,h1,E,F,D⟩
  rw[ya (by omega),yb ((zgj _ _).2 fun x J=>by
   obtain⟨i,hi,rfl⟩:=List.getElem_of_mem J;have:=h1 i hi
   rwa [zbq hi] at this),yb (yF E),yb (yF F),ya]
  simp only[Bool.not_eq_true,List.any_eq_false,List.mem_range];intro i hi;rw[D i hi]
theorem zbj{N:Int}{x:Nd}(h:zfp N x=0):zcT x=true/\zeg N x=true/\zec x=true:=by
 unfold zfp at h
 split at h
 ·split at h
  ·split at h
   ·exact⟨by assumption,by assumption,by assumption⟩
   ·omega
  ·omega
 ·omega
theorem WF.kid{S:List Nd}(h:WF S){i:Nat}(hi:i<S.length){x:Int}(J:x ∈ (nd S i).ks) :
  ∃ k:Nat,x=k/\k<S.length/\(nd S k).u=true/\(nd S k).p=i/\zak (nd S k)=i:=by
 have h1:=(zha (zhb (h.node i hi))).1 x J;obtain⟨M,E,F⟩:=h.kids.1 i hi x J;obtain⟨k,rfl⟩:∃ k:Nat,x=(k:Int):=⟨x.toNat,by omega⟩;have I:k<S.length:=by omega
 simp only[yi] at E F;refine⟨k,rfl,I,E,F,?_⟩;have D:=(zbj (h.node k I)).2.2;unfold zec at D;rw[yb E] at D;unfold zak
 split at D
 ·cases D
 ·split at D
  ·rename_i hh;rw[yb hh];exact F
  ·have:=of_decide_eq_true D;omega
def Up(S:List Nd):Nat->Nat->Nat->Prop
 | 0,x,p=>x=p
 | j+1,x,p=>∃ y:Nat,y<S.length/\zak (nd S x)=y/\Up S j y p
theorem Up.det{S:List Nd}:∀ {j x p q:Nat},Up S j x p->Up S j x q->p=q
 | 0,_,_,_,h,k=>by cases h;cases k;rfl
 | j+1,_,_,_,⟨y,_,I,D⟩,⟨F,_,J,E⟩=>by
  have:y=F:=by omega
  subst this;exact Up.det D E
theorem Up.trans{S:List Nd}:∀ {i j x y z:Nat},Up S i x y->Up S j y z->Up S (i+j) x z
 | 0,j,_,_,_,h,k=>by cases h;simpa using k
 | i+1,j,_,_,_,⟨F,h1,D,E⟩,k=>by
  rw[show i+1+j=(i+j)+1 by omega];exact⟨F,h1,D,Up.trans E k⟩
theorem Up.split{S:List Nd}:∀ {i j x z:Nat},Up S (i+j) x z->∃ y,Up S i x y/\Up S j y z
 | 0,j,x,_,h=>⟨x,rfl,by simpa using h⟩
 | i+1,j,x,z,h=>by
  rw[show i+1+j=(i+j)+1 by omega] at h;obtain⟨J,h1,D,E⟩:=h;obtain⟨y,F,I⟩:=Up.split E;exact⟨y,⟨J,h1,D,F⟩,I⟩
theorem zlq{S:List Nd}:∀ {j x D f:Nat} (st:Bool),Up S (j+1) x D->j+1<=f->zbF S zak (zeq D) f (zak (nd S x)) st=true
 | j,x,D,0,_,_,I=>by omega
 | j,x,D,f+1,st,⟨y,h1,F,E⟩,I=>by
  rw[F];have J:zie S.length (y:Int)=true:=yF ⟨by omega,by omega⟩;simp only[zbF,J,if_true,zeq,yi];by_cases e:(y:Int)=(D:Int)
  ·simp[e]
  ·simp only[yE e,Bool.not_false,if_true]
   cases j with
   | zero=>exact absurd (by cases E;rfl) e
   | succ j=>exact zlq _ E (by omega)
theorem WF.no_ring{S:List Nd}(h:WF S){x j:Nat}(I:x<S.length)(h1:1<=j)(D:j<=S.length):¬ Up S j x x:=fun F=>by
 obtain⟨j,rfl⟩:∃ i,j=i+1:=⟨j-1,by omega⟩;have:=h.noring x I;unfold zbv at this;have E:zie S.length (x:Int)=true:=yF ⟨by omega,by omega⟩;rw[E,yb rfl,yi,zlq false F D] at this;cases this
theorem WF.up_one{S:List Nd}{i k:Nat}(hi:i<S.length)(D:zak (nd S k)=i):Up S 1 k i:=⟨i,hi,D,rfl⟩
theorem ziI{N:Nat}{l:List Nat}(h:l.Nodup)(hl:∀ y ∈ l,y<N):l.length<=N:=by
 have:=h.length_le_of_subset (l₂:=List.range N) (fun y D=>List.mem_range.2 (hl y D));simpa using this
theorem WF.deep{S:List Nd}(h:WF S):∀ (f x:Nat) (r:List Nat),x<S.length->(x :: r).Nodup->(∀ y ∈ r,y<S.length)->(∀ y ∈ r,∃ j,1<=j/\j<=r.length/\Up S j x y)->S.length<=f+r.length+1->Deep S f x:=by
 have step:∀ (x:Nat) (r:List Nat),x<S.length->(x :: r).Nodup->(∀ y ∈ r,y<S.length)->(∀ y ∈ r,∃ j,1<=j/\j<=r.length/\Up S j x y)->∀ k:Nat,k<S.length->zak (nd S k)=x ->
   (k :: x :: r).Nodup/\(∀ y ∈ x :: r,y<S.length)/\(∀ y ∈ x :: r,∃ j,1<=j/\j<=(x :: r).length/\Up S j k y):=fun x r F hn O T k J D=>by
  have I:∀ y ∈ x :: r,y<S.length:=fun y E=>by
   rcases List.mem_cons.1 E with rfl|E
   ·exact F
   ·exact O y E
  have hlen:=ziI hn I
  have U:∀ y ∈ x :: r,∃ j,1<=j/\j<=(x :: r).length/\Up S j k y:=fun y E=>by
   rcases List.mem_cons.1 E with rfl|E
   ·exact⟨1,by omega,by simp,WF.up_one F D⟩
   ·obtain⟨j,j1,j2,j3⟩:=T y E;exact⟨1+j,by omega,by simp;omega,(WF.up_one F D).trans j3⟩
  refine⟨List.nodup_cons.2 ⟨fun hm=>?_,hn⟩,I,U⟩;obtain⟨j,j1,j2,j3⟩:=U k hm;exact h.no_ring J j1 (by omega) j3
 intro f
 induction f with
 | zero =>
  intro x r F hn O T hf;show (nd S x).ks=[]
  cases hks:(nd S x).ks with
  | nil=>rfl
  | cons k ks =>
   obtain⟨k', rfl,J,_,_,D⟩:=h.kid F (x:=k) (by rw[hks];simp);obtain⟨h1,Z,h3⟩:=step x r F hn O T k' J D
   have:=ziI h1 (fun y E=>by
    rcases List.mem_cons.1 E with rfl|E
    ·exact J
    ·exact Z y E)
   simp at this;omega
 | succ f ih =>
  intro x r F hn O T hf k J;obtain⟨k', rfl,M,_,_,D⟩:=h.kid F J;obtain⟨h1,Z,h3⟩:=step x r F hn O T k' M D;refine⟨⟨by omega,by omega⟩,?_⟩;rw[yi];exact ih k' (x :: r) M h1 Z h3 (by simp;omega)
theorem WF.deep_all{S:List Nd}(h:WF S){p:Nat}(E:p<S.length):Deep S S.length p :=
 h.deep S.length p [] E (by simp) (fun y D=>by cases D) (fun y D=>by cases D) (by omega)
end Go.Proofs.YtcbcpomacdngmaaGreat
