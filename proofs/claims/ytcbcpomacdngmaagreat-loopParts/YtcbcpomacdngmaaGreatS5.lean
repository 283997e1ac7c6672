/-
  x
-/
import Derived.Test.YtcbcpomacdngmaaGreatS4
import Derived.BigQuiet
import Derived.Laws.StructEq
import Derived.Shelf.SlGeneric
import Derived.Shelf.Spec.SlicesInsertGrow
import Derived.Ground.Names2Prog
import Derived.Ground.SlgfProg
import Derived.Shelf.SlicesE.DeleteFunc
namespace Go.Proofs.YtcbcpomacdngmaaGreat
set_option maxRecDepth 100000
set_option maxHeartbeats 4000000
set_option linter.unusedVariables false
open Go.RowKit Go.Shelf
theorem Own.below{w w' : World}{B g k:Nat}{S:List Nd}{kb kc:Nat->Nat}(h:Own w B g S kb kc k)(I:Below w.heap.size w w'):Own w' B g S kb kc k:=by
 obtain⟨J,F,D,E,hg,hd⟩:=h;exact⟨J,F,D.of_block (I.block g D.lt),fun i hi=>(E i hi).below I (E i hi).row,hg,hd⟩
theorem Own.setOther{w:World}{B g k:Nat}{S:List Nd}{kb kc:Nat->Nat}(h:Own w B g S kb kc k){a:Addr}(ha:a.block<g)(v:Value):Own (w.setCell a v) B g S kb kc k:=by
 obtain⟨hB,F,hF,hN,hg,hd⟩:=h;refine⟨hB,F,hF.setOther (by omega) v,fun i hi=>?_,hg,hd⟩;obtain⟨E,I,J,M,O,T,U,Z,e8,D,G,hG,e9⟩:=hN i hi;exact⟨E,I,J,M,O,T,U,Z,e8,D,G,hG.setOther (by have:=hg i hi;omega) v,e9⟩
def RNd(S:List Nd)(i:Nat)(y:ENd)(lo hi:Nat)(V:World):Prop :=
 y.u=(nd S i).u/\y.n=(nd S i).n/\y.t=(nd S i).t/\y.m=(nd S i).m/\y.p=(nd S i).p/\y.h=(nd S i).h/\y.c=(nd S i).c/\y.kl=(nd S i).ks.length/\y.kc=(nd S i).ks.length/\∃ kb,y.ka=some ⟨kb,0,none⟩/\lo<=kb/\kb<hi/\V.rowIs kb 3 (nd S i).ks.length (fun j=>.int .i64 ((nd S i).ks.getD j 0))
theorem zwM{w:World}{B g:Nat}{S:List Nd}(hB:B<=g)(hK:∀ i,i<S.length->(nd S i).ks.length<=1000)(h:zaC zzp 57 8 S.length (RNd S) g S.length w):∃ kb kc,Own w B g S kb kc S.length:=by
 obtain⟨v,lo,hi,F,hF,E⟩:=h
 have key:∀ i,i<S.length->(v i).ka=some ⟨((v i).ka.getD ⟨0,0,none⟩).block,0,none⟩/\lo i<=((v i).ka.getD ⟨0,0,none⟩).block/\((v i).ka.getD ⟨0,0,none⟩).block<hi i:=fun i D=>by
  obtain⟨_,_,_,_,_,_,_,_,_,kb,e,h1,h2,_⟩:=(E i D).2.2.2.2.2.at;rw[e];exact⟨rfl,h1,h2⟩
 refine⟨fun i=>((v i).ka.getD ⟨0,0,none⟩).block,fun i=>(nd S i).ks.length,hB,F,hF,fun i D=>?_,fun i D=>?_,fun i D j J e=>?_⟩
 ·obtain⟨h1,_,_,_,_,h6⟩:=E i D;obtain⟨M,O,T,U,Z,e6,e7,el,ec,kb,I,_,_,hr⟩:=h6.at;refine⟨?_,?_,?_,?_,?_,?_,?_,?_,yj _,hK i D,_,?_,fun j _=>rfl⟩
  ·exact(h1 0 (by omega)).trans (congrArg Value.bool M)
  ·exact(h1 1 (by omega)).trans (congrArg (Value.int .i64) O)
  ·exact(h1 2 (by omega)).trans (congrArg (Value.int .i64) T)
  ·exact(h1 3 (by omega)).trans (congrArg (Value.int .i64) U)
  ·exact(h1 4 (by omega)).trans (congrArg (Value.int .i64) Z)
  ·refine(h1 5 (by omega)).trans ?_;show Value.slice (v i).ka (v i).kl (v i).kc=Value.slice (some ⟨((v i).ka.getD ⟨0,0,none⟩).block,0,none⟩) (nd S i).ks.length (nd S i).ks.length;rw[el,ec,I];rfl
  ·exact(h1 6 (by omega)).trans (congrArg (Value.int .i64) e6)
  ·exact(h1 7 (by omega)).trans (congrArg Value.bool e7)
  ·show w.rowIs ((v i).ka.getD ⟨0,0,none⟩).block _ _ _;rw[I];exact hr
 ·have:=(E i D).2.1;have:=(key i D).2.1;show g<((v i).ka.getD ⟨0,0,none⟩).block;omega
 ·have k1:=(key i D).2;have k2:=(key j J).2;rcases Nat.lt_trichotomy i j with h|h|h
  ·have:=(E j J).2.2.2.2.1 i h;dsimp only at e;omega
  ·exact h
  ·have:=(E i D).2.2.2.2.1 j h;dsimp only at e;omega
theorem zqy(a:Option Addr)(c:Nat)(S:List Nd)(w:World)(hN:S.length<=24)(hK:∀ i,i<S.length->(nd S i).ks.length<=1000)(O:zai w a S) :
  yM 133 #[.slice a S.length c,.func (.func 44) #[] #[]] w fun e w' => e=.returned (.slice (some ⟨w.heap.size,0,none⟩) S.length S.length)/\Below w.heap.size w w' /\ zaC zzp 57 8 S.length (RNd S) w.heap.size S.length w' := by
 obtain⟨f,I⟩:=Classical.skolem.1 (fun i=>show ∃ x:Option Addr × Nat,i<S.length->(∃ b o,a=some ⟨b,o,none⟩/\w.cell? ⟨b,o+i*8,none⟩=some (.bool (nd S i).u)/\w.cell? ⟨b,o+i*8+1,none⟩=some (.int .i64 (nd S i).n)/\w.cell? ⟨b,o+i*8+2,none⟩=some (.int .i64 (nd S i).t)/\w.cell? ⟨b,o+i*8+3,none⟩=some (.int .i64 (nd S i).m)/\w.cell? ⟨b,o+i*8+4,none⟩=some (.int .i64 (nd S i).p)/\w.cell? ⟨b,o+i*8+5,none⟩=some (.slice x.1 (nd S i).ks.length x.2)/\w.cell? ⟨b,o+i*8+6,none⟩=some (.int .i64 (nd S i).h)/\w.cell? ⟨b,o+i*8+7,none⟩=some (.bool (nd S i).c))/\zaj w x.1 (nd S i).ks by
  by_cases hi:i<S.length
  ·obtain⟨b,o,e,c0,c1,c2,c3,c4,⟨ka,kc,c5,E⟩,J,M⟩:=O i hi;exact⟨(ka,kc),fun _=>⟨⟨b,o,e,c0,c1,c2,c3,c4,c5,J,M⟩,E⟩⟩
  ·exact⟨(none,0),fun h=>absurd h hi⟩)
 refine zzG 44 (yK Tryz.func44 (by kernel_rfl) rfl) a c S.length (fun i=>⟨(nd S i).u,(nd S i).n,(nd S i).t,(nd S i).m,(nd S i).p,(f i).1,(nd S i).ks.length,(f i).2,(nd S i).h,(nd S i).c⟩) (RNd S) w (by omega) (fun i hi=>(I i hi).1) (fun i hi W T=>?_);refine(zid (nd S i) (f i).1 (f i).2 W (by have:=hK i hi;omega) ((I i hi).2.below T)).mono ?_;rintro e w' ⟨g,rfl,U,hg,D⟩;refine⟨⟨(nd S i).u,(nd S i).n,(nd S i).t,(nd S i).m,(nd S i).p,some ⟨g,0,none⟩,(nd S i).ks.length,(nd S i).ks.length,(nd S i).h,(nd S i).c⟩,rfl,U,fun w2 Z=>⟨rfl,rfl,rfl,rfl,rfl,rfl,rfl,rfl,rfl,g,rfl,hg,D.lt,D.of_block (Z.block g D.lt (fun F=>?_))⟩⟩;have:=D.lt;rcases F with F|F <;> omega
theorem copy_any(a:Option Addr)(c:Nat)(S:List Nd)(w:World)(hN:S.length<=24)(hK:∀ i,i<S.length->(nd S i).ks.length<=1000)(I:zai w a S) :
  yM 102 #[.agg #[.slice a S.length c]] w fun e w' => ∃ g kb kc,e=.returned (.agg #[.slice (some ⟨g,0,none⟩) S.length S.length])/\Below w.heap.size w w' /\ Own w' w.heap.size g S kb kc S.length:=by
 have D:Hid (∀ J M,Calls _ _ _ _ _):=fun J M=>zqy a c S ((w.alloc J).alloc M) hN hK (I.below (zaf _ _ _));have U:Hid (∀ V,zaC zzp 57 8 S.length (RNd S) (w.heap.size+1+1) S.length V->∃ kb kc,Own V w.heap.size (w.heap.size+1+1) S kb kc S.length):=fun V h=>zwM (by omega) hK h;clear I hK;simp only[yr] at D;generalize S.length=n at *
 go_enter Tryz.func102,Tryz.ntmps102
 go_wp2_with (go_at_call 133;refine(D.out _ _).mono ?_;rintro e w3 ⟨rfl,E,F⟩;have Z:Hid _:=F;clear F;have y1:w3.cell? ⟨w.heap.size+1,0,none⟩=some (.slice none 0 0):=(E.cell (by simp)).trans (by go_simp);have y2:∀ o,w3.frozen? ⟨w.heap.size+1,o,none⟩=false:=fun o=>(E.frozen (by simp)).trans (by go_simp);have T:Hid (Below w.heap.size w w3):=(zaf _ _ _).trans (E.mono (by omega));clear E)
 obtain⟨kb,kc,O⟩:=U.out w3 Z.out;refine yw (v:=.agg #[.slice (some ⟨w.heap.size+1+1,0,none⟩) n n]) (by simp[results,Tryz.results102,go_sem,y1]) rfl ⟨w.heap.size+1+1,kb,kc,rfl,T.out.setCell (by simp) _,O.setOther (by simp) _⟩
theorem zkJ(x:Nd)(k:Value)(w:World) :
  yM 195 #[.agg #[.bool x.u,.int .i64 x.n,.int .i64 x.t,.int .i64 x.m,.int .i64 x.p,k,.int .i64 x.h,.bool x.c]] w fun e w' => e=.returned (.bool (!x.u && decide (x.n<1000000)))/\Below w.heap.size w w' := by
 obtain⟨u,n,t,m,p,ks,h,c⟩:=x;dsimp only;cases u
 ·by_cases hn:n<1000000
  ·have hd:(!false && decide (n<1000000))=true:=(by simp[hn]);rw[hd];clear hd
   go_enter Tryz.func195,Tryz.ntmps195
   go_wp2
   go_ret;exact⟨rfl,(yk _ _).alloc (yj _) _⟩
  ·have hd:(!false && decide (n<1000000))=false:=(by simp[hn]);rw[hd];clear hd
   go_enter Tryz.func195,Tryz.ntmps195
   go_wp2
   go_ret;exact⟨rfl,(yk _ _).alloc (yj _) _⟩
 ·go_enter Tryz.func195,Tryz.ntmps195
  go_wp2
  go_ret;exact⟨rfl,(yk _ _).alloc (yj _) _⟩
def zcr(x:Nd):Bool:=!x.u && decide (x.n<1000000)
theorem zmH(a:Option Addr)(c:Nat)(S:List Nd)(w:World)(hn:S.length<=9223372036854775807)(O:zai w a S)(k:Nat)(hk:k<S.length)(T:zcr (nd S k)=true)(D:∀ i,i<k->zcr (nd S i)=false) :
  yM 194 #[.slice a S.length c,.func (.func 195) #[] #[]] w fun e w' => e=.returned (.int .i64 k)/\Below w.heap.size w w' := by
 have HS:Hid (zai w a S):=O;have Z:Hid _:=D;have I:Hid _:=T;clear O D T;generalize M:S.length=n at *;have HN:Hid _:=M;clear M
 go_enter Tryz.func194,Tryz.ntmps194
 go_wp2
 go_loopg [8] n (fun g s8 wr=>∃ i:Nat,i<=k/\n-i<=g/\s8=.int .i64 i/\Below w.heap.size w wr)
 case atStart=>exact⟨0,by omega,by omega,rfl,yk _ _⟩
 case round =>
  obtain⟨i,hi,hg,rfl,F⟩:=hrel;have J:i<n:=by omega
  have U:(i:Int)<(n:Int):=by omega
  obtain⟨b,o,rfl,c0,c1,c2,c3,c4,⟨ka,kc,c5,_⟩,c6,c7⟩:=(HS.out.below F) i (by rw[HN.out];exact J);have d1:=fun v W=>zkJ (nd S i) v W;rw[show (!(nd S i).u && decide ((nd S i).n<1000000))=zcr (nd S i) from rfl] at d1;by_cases e:i=k
  ·subst e;rw[I.out] at d1;generalize nd S i=x at *
   go_wp2_with (go_at_call 195;refine(d1 _ _).mono ?_;rintro e w' ⟨rfl,E⟩)
   go_ret;exact⟨rfl,F.trans (E.mono F.size)⟩
  ·rw[Z.out i (by omega)] at d1;generalize nd S i=x at *
   go_wp2_with (go_at_call 195;refine(d1 _ _).mono ?_;rintro e w' ⟨rfl,E⟩)
   go_roundg (n-(i+1))
   case measure=>omega
   case rel=>exact⟨i+1,by omega,by omega,by go_num,F.trans (E.mono F.size)⟩
def zaZ:Nd:=⟨false,0,0,0,-1,[],-1,false⟩
theorem zfu(n i:Nat)(x:Nd)(h:i<n):nd (List.replicate n x) i=x:=by
 rw[zbf (by simpa using h)];simp
theorem zwL(n:Nat)(w:World)(hn:n<=24) :
  yM 62 #[.int .i64 n] w fun e w' => ∃ g,e=.returned (.tuple #[.agg #[.slice (some ⟨g,0,none⟩) n n],.int .i64 0])/\Below w.heap.size w w' /\ zai w' (some ⟨g,0,none⟩) (List.replicate n zaZ)/\w.heap.size<=g/\g<w'.heap.size:=by
 have a8:=ztG n (by omega)
 go_enter Tryz.func62,Tryz.ntmps62
 go_wp2_with (go_at_call 66;refine(zew _ _ _ _ (by omega) (by omega)).mono ?_;rintro e w' ⟨rfl,rfl⟩)
 go_loopg [14] n (fun g s14 wr=>∃ (k:Nat) (F:Nat->Value),k<=n/\n-k<=g/\s14=.int .i64 k/\Below (w.heap.size+1) (w.alloc (Obj.cells #[Value.slice none 0 0] 43)) wr/\w.heap.size+1<wr.heap.size/\Hid (wr.rowIs (w.heap.size+1) 57 (n*8) F)/\Hid (∀ i,i<k->F (i*8)=.bool false/\F (i*8+1)=.int .i64 0/\F (i*8+2)=.int .i64 0/\F (i*8+3)=.int .i64 0/\F (i*8+4)=.int .i64 (-1)/\F (i*8+5)=.slice none 0 0/\F (i*8+6)=.int .i64 (-1)/\F (i*8+7)=.bool false))
 case atStart =>
  refine⟨0,fun j=>zjU[j % 8]!,Nat.zero_le _,by omega,rfl,(yk _ _).alloc (by simp) _,by simp,?_,(show Hid _ from fun i hi=>absurd hi (yx _))⟩;have h:=zlU (w.alloc (Obj.cells #[Value.slice none 0 0] 43)) n;simp only[yr] at h;exact h
 case round =>
  obtain⟨k,F,hk,hg,rfl,J,a9,E,A⟩:=hrel;have M:wr.cell? ⟨w.heap.size,0,none⟩=some (.slice none 0 0):=(J.cell (by simp)).trans (by go_simp);have a5:wr.frozen? ⟨w.heap.size,0,none⟩=false:=(J.frozen (by simp)).trans (by go_simp);by_cases a7:k<n
  ·have q0:=E.out.cell (i:=k*8) (by omega);have q1:=E.out.cell (i:=k*8+1) (by omega);have q2:=E.out.cell (i:=k*8+2) (by omega);have q3:=E.out.cell (i:=k*8+3) (by omega);have q4:=E.out.cell (i:=k*8+4) (by omega);have q5:=E.out.cell (i:=k*8+5) (by omega);have q6:=E.out.cell (i:=k*8+6) (by omega);have q7:=E.out.cell (i:=k*8+7) (by omega);have a6:=E.out.frozen
   go_wp2_with (go_at_call 93;refine(zhZ _ _).mono ?_;rintro e w' ⟨rfl,rfl⟩)
   go_roundg (n-(k+1))
   case measure=>omega
   case rel =>
    refine⟨k+1,_,by omega,by omega,by go_num,?_,by simp;omega,(zpW E.out (k*8) _ _ _ _ _ _ _ _).alloc _,(show Hid _ from fun i hi=>?_)⟩
    ·exact((((((((J.setCell (by simp) _).setCell (by simp) _).setCell (by simp) _).setCell (by simp) _).setCell (by simp) _).setCell (by simp) _).setCell (by simp) _).setCell (by simp) _).alloc (by simp;omega) _
    ·by_cases e:i=k
     ·subst e;unfold zrW;refine⟨?_,?_,?_,?_,?_,?_,?_,?_⟩
      ·rw[ya (by omega),ya (by omega),ya (by omega),ya (by omega),ya (by omega),ya (by omega),ya (by omega),yb rfl]
      ·rw[ya (by omega),ya (by omega),ya (by omega),ya (by omega),ya (by omega),ya (by omega),yb rfl]
      ·rw[ya (by omega),ya (by omega),ya (by omega),ya (by omega),ya (by omega),yb rfl]
      ·rw[ya (by omega),ya (by omega),ya (by omega),ya (by omega),yb rfl]
      ·rw[ya (by omega),ya (by omega),ya (by omega),yb rfl]
      ·rw[ya (by omega),ya (by omega),yb rfl]
      ·rw[ya (by omega),yb rfl]
      ·rw[yb rfl]
     ·obtain⟨O,T,U,Z,e4,e5,e6,e7⟩:=A.out i (by omega);refine⟨?_,?_,?_,?_,?_,?_,?_,?_⟩
      all_goals
       rw[zbR (by omega)];assumption
  ·have:k=n:=(by omega);subst this
   go_wp2
   refine yw (v:=.tuple #[.agg #[.slice (some ⟨w.heap.size+1,0,none⟩) k k],.int .i64 0]) (by simp[results,Tryz.results62,go_sem,M]) rfl ⟨w.heap.size+1,rfl,?_,fun i hi=>?_,by omega,by simp;omega⟩
   ·exact(((yk _ _).alloc (yj _) _).trans (J.mono (by omega))).setCell (yj _) _
   ·have I:i<k:=(by simpa using hi);have D:=E.out.setOther (a:=⟨w.heap.size,0,none⟩) (by simp) (.slice (some ⟨w.heap.size+1,0,none⟩) k k);obtain⟨O,T,U,Z,e4,e5,e6,e7⟩:=A.out i I;rw[zfu k i _ I];refine⟨w.heap.size+1,0,rfl,?_⟩;rw[yB];refine⟨?_,?_,?_,?_,?_,⟨none,0,?_,fun j hj=>absurd hj (yx _)⟩,?_,?_⟩
    ·rw[D.cell (by omega),O];rfl
    ·rw[D.cell (by omega),T];rfl
    ·rw[D.cell (by omega),U];rfl
    ·rw[D.cell (by omega),Z];rfl
    ·rw[D.cell (by omega),e4];rfl
    ·rw[D.cell (by omega),e5];rfl
    ·rw[D.cell (by omega),e6];rfl
    ·rw[D.cell (by omega),e7];rfl
theorem zcP(S:List Nd)(k i:Nat)(x:Nd)(D:k<S.length):nd (S.set k x) i=if i=k then x else nd S i:=by
 unfold nd;by_cases e:i=k
 ·subst e;simp[List.getD,D]
 ·rw[ya e];simp[List.getD,Ne.symm e]
theorem zdE{w D:World}{a:Option Addr}{n c:Nat}(E:Below (w.heap.size+1+1+1) (((w.alloc (.cells #[.slice a n c] 43)).alloc (.cells #[.slice none 0 0] 43)).alloc (.cells #[.int .i64 0,.int .i64 0] 61)) D) :
  D.cell? ⟨w.heap.size,0,none⟩=some (.slice a n c)/\D.cell? ⟨w.heap.size+1,0,none⟩=some (.slice none 0 0)/\D.cell? ⟨w.heap.size+1+1,0,none⟩=some (.int .i64 0)/\D.cell? ⟨w.heap.size+1+1,1,none⟩=some (.int .i64 0) /\
  D.frozen? ⟨w.heap.size+1,0,none⟩=false/\D.frozen? ⟨w.heap.size+1+1,0,none⟩=false/\D.frozen? ⟨w.heap.size+1+1,1,none⟩=false :=
 ⟨(E.cell (by simp;omega)).trans (by go_simp),(E.cell (by simp)).trans (by go_simp),(E.cell (by simp)).trans (by go_simp),(E.cell (by simp)).trans (by go_simp),(E.frozen (by simp)).trans (by go_simp),(E.frozen (by simp)).trans (by go_simp),(E.frozen (by simp)).trans (by go_simp)⟩
theorem zar(w:World)(D E o3:Obj):Below w.heap.size w (((w.alloc D).alloc E).alloc o3):=((((yk _ _).alloc (yj _) _).alloc (by simp) _).alloc (by simp;omega) _)
def zbO(x:Nd)(t:Int):Nd:=⟨true,x.n+1,t,x.m,x.p,x.ks,x.h,x.c⟩
def ziZ(S:List Nd)(D pa:Nat):Bool:=decide ((nd S D).h = -1) && (!decide ((pa:Int)=D) && !zbs S pa D)
theorem zlz(a:Option Addr)(c:Nat)(S:List Nd)(D pa:Nat)(w:World)(hN:S.length<=9223372036854775807)(hc:D<S.length)(F:zai w a S) :
  yM 205 #[.agg #[.slice a S.length c],.int .i64 D,.int .i64 pa] w fun e w' => e=.returned (.bool (ziZ S D pa))/\Below w.heap.size w w' := by
 unfold ziZ;have J:=fun(W:World) (hW:zai W a S)=>znz a c S pa D W hN hW;have O:Hid _:=J;have T:Hid (zai w a S):=F;have a6:(D:Int)<(S.length:Int):=by omega
 obtain⟨b,o,rfl,c0,_,_,_,_,_,c6,_⟩:=F D hc;have a5:=yd _ _ c0;clear F J;generalize zbs S pa D=U at *;generalize (nd S D).h=hh at *;generalize S.length=n at *;by_cases h1:hh = -1
 ·subst h1;by_cases E:(pa:Int)=D
  ·have e:decide ((pa:Int)=D)=true:=yG E;have h3:pa=D:=(by omega);subst h3;rw[e];simp only[decide_true,Bool.not_true,Bool.false_and,Bool.and_false]
   go_enter Tryz.func205,Tryz.ntmps205
   go_wp2
   go_ret;exact⟨rfl,(yk _ _).alloc (yj _) _⟩
  ·have e:decide ((pa:Int)=D)=false:=yF E;rw[e];have M:((pa:Int) ==(D:Int))=false:=beq_eq_false_iff_ne.2 E;have e2:((pa:Int) !=(D:Int))=true:=(by simp[bne,M]);have Z:¬ pa=D:=(by omega);simp only[decide_true,Bool.not_false,Bool.true_and];cases U
   all_goals
    go_enter Tryz.func205,Tryz.ntmps205
    go_wp2_with (go_at_call 128;refine(O.out _ (T.out.below ((yk _ _).alloc (yj _) _))).mono ?_;rintro e w1 ⟨rfl,I⟩)
    go_ret;exact⟨rfl,((yk _ _).alloc (yj _) _).trans (I.mono (by simp))⟩
 ·have e:decide (hh = -1)=false:=yF h1;have M:(hh == -1)=false:=beq_eq_false_iff_ne.2 h1;rw[e];simp only[Bool.false_and]
  go_enter Tryz.func205,Tryz.ntmps205
  go_wp2
  go_ret;exact⟨rfl,(yk _ _).alloc (yj _) _⟩
theorem zor(ha:Option Addr)(hc:Nat)(hs:List (Int × Int))(p u:Int)(w:World)(hL:hs.length<=9223372036854775807)(hH:zas w ha hs) :
  yM 216 #[.slice ha hs.length hc,.agg #[.int .i64 p,.int .i64 u]] w fun e w' => ∃ r:Int,e=.returned (.int .i64 r)/\Below w.heap.size w w' /\((0<=r)↔(p,u) ∈ hs):=by
 have HH:Hid (zas w ha hs):=hH;have IN:Hid (∀ k,k<hs.length->hs.getD k (0,0)=(p,u)->(p,u) ∈ hs):=fun k hk h=>by rw[<- h,zae hs _ hk];exact List.getElem_mem hk
 have a5:Hid ((∀ k,k<hs.length->hs.getD k (0,0)≠(p,u))->(p,u) ∉ hs):=fun h J=>by
  obtain⟨i,hi,e⟩:=List.getElem_of_mem J;exact h i hi (by rw[zae hs _ hi];exact e)
 clear hH;generalize J:hs.length=m at *;have HM:Hid _:=J;clear J;generalize ((p,u) ∈ hs)=Q at *
 go_enter Tryz.func216,Tryz.ntmps216
 go_wp2
 go_loopg [8] m (fun g s8 wr=>∃ k:Nat,k<=m/\m-k<=g/\s8=.int .i64 k/\Below (w.heap.size+1) (w.alloc (.cells #[.int .i64 p,.int .i64 u] 61)) wr/\Hid (∀ i,i<k->hs.getD i (0,0)≠(p,u)))
 case atStart=>exact⟨0,by omega,by omega,rfl,yk _ _,(show Hid _ from fun i hi=>absurd hi (yx _))⟩
 case round =>
  obtain⟨k,hk,hg,rfl,E,A⟩:=hrel;have D:Below w.heap.size w wr:=((yk _ _).alloc (yj _) _).trans (E.mono (by omega));have x0:wr.cell? ⟨w.heap.size,0,none⟩=some (.int .i64 p):=(E.cell (by simp)).trans (by go_simp);have x1:wr.cell? ⟨w.heap.size,1,none⟩=some (.int .i64 u):=(E.cell (by simp)).trans (by go_simp);by_cases F:k<m
  ·have a6:(k:Int)<(m:Int):=(by omega);obtain⟨b,o,rfl,c0,c1⟩:=(HH.out.below D) k (by rw[HM.out];exact F);generalize hy:hs.getD k (0,0)=y at *;obtain⟨M,O⟩:=y;dsimp only at c0 c1;have T:Hid _:=hy;clear hy;by_cases I:p=M
   ·by_cases e2:u=O
    ·subst I;subst e2;have Z:Hid _:=IN.out k F T.out
     go_wp2_with fail
     go_quiet (fail)
     go_wp2
     go_ret;exact⟨k,rfl,Below.drewNs D _,fun _=>Z.out,fun _=>by omega⟩
    ·have e3:(u == O)=false:=beq_eq_false_iff_ne.2 e2;have U:Hid ((M,O)≠(p,u)):=fun h=>e2 (by cases h;rfl);subst I
     go_wp2_with fail
     go_quiet (fail)
     go_wp2
     go_roundg (m-(k+1))
     case measure=>omega
     case rel =>
      refine⟨k+1,by omega,by omega,by go_num,Below.drewNs E _,(show Hid _ from fun i hi=>?_)⟩;by_cases e:i=k
      ·rw[e,T.out];exact U.out
      ·exact A.out i (by omega)
   ·have e3:(p == M)=false:=beq_eq_false_iff_ne.2 I;have U:Hid ((M,O)≠(p,u)):=fun h=>I (by cases h;rfl)
    go_wp2_with fail
    go_quiet (fail)
    go_wp2
    go_roundg (m-(k+1))
    case measure=>omega
    case rel =>
     refine⟨k+1,by omega,by omega,by go_num,Below.drewNs E _,(show Hid _ from fun i hi=>?_)⟩;by_cases e:i=k
     ·rw[e,T.out];exact U.out
     ·exact A.out i (by omega)
  ·have:k=m:=(by omega);subst this;have Z:Hid _:=a5.out A.out
   go_wp2
   go_ret;exact⟨-1,rfl,D,fun h=>by omega,fun h=>absurd h Z.out⟩
def Tryz.lays21_ren:Go.Shelf.Ren:=⟨fun|21=>218|27=>224|28=>225|35=>227|39=>228|n=>n,fun|22=>48|3=>3|4=>4|0=>0|n=>n,fun|n=>n⟩
theorem Tryz.lays21:Go.Proofs.Lays2.n21 Tryz.prog Tryz.lays21_ren:={
 mixed:=by kernel_rfl
 f21:=Tryz.func218.trans (congrArg some (by kernel_rfl))
 f27:=Tryz.func224.trans (congrArg some (by kernel_rfl))
 f28:=Tryz.func225.trans (congrArg some (by kernel_rfl))
 f35:=Tryz.func227.trans (congrArg some (by kernel_rfl))
 f39:=Tryz.func228.trans (congrArg some (by kernel_rfl))
 t0:=Tryz.underlying0
 a0:=Tryz.isAgg0
 z0:=Tryz.sizeOf0
 v0:=Tryz.zeroValue0
 t3:=Tryz.underlying3
 a3:=Tryz.isAgg3
 z3:=Tryz.sizeOf3
 v3:=Tryz.zeroValue3
 t4:=Tryz.underlying4
 a4:=Tryz.isAgg4
 z4:=Tryz.sizeOf4
 v4:=Tryz.zeroValue4
 t22:=Tryz.underlying48
 a22:=Tryz.isAgg48
 z22:=Tryz.sizeOf48
 v22:=Tryz.zeroValue48
 i3:=by kernel_rfl }
def ins(ks:List Int)(i:Nat)(c:Int):List Int:=ks.take i++c :: ks.drop i
theorem zfO(ks:List Int)(i:Nat)(c:Int)(h:i<=ks.length):(ins ks i c).length=ks.length+1:=by
 simp[ins];omega
theorem zlC(ks:List Int)(i j:Nat)(c:Int)(h:i<=ks.length)(D:j<i):(ins ks i c).getD j 0=ks.getD j 0:=by
 simp[ins,List.getD,List.getElem?_append,D];rw[yb (by omega)]
theorem ziH(ks:List Int)(i:Nat)(c:Int)(h:i<=ks.length):(ins ks i c).getD i 0=c:=by
 simp[ins,List.getD,Nat.min_eq_left h]
theorem zpE(ks:List Int)(i j:Nat)(c:Int)(h:i<=ks.length)(D:i<j):(ins ks i c).getD j 0=ks.getD (j-1) 0:=by
 have e:j-i=(j-1-i)+1:=by omega
 simp[ins,List.getD,List.getElem?_append,Nat.min_eq_left h];rw[ya (by omega),e,List.getElem?_cons_succ,List.getElem?_drop,show i+(j-1-i)=j-1 by omega]
theorem zbD{b t n:Nat}:∀ (D:List Value) (o:Nat) (w:World) (F:Nat->Value),w.rowIs b t n F->(w.setCells b o D).rowIs b t n (fun j=>if o<=j/\j<o+D.length then D.getD (j-o) undef else F j)
 | [],o,w,F,h=>h.congr (fun j _=>by rw[ya];simp)
 | v :: r,o,w,F,h=>by
  refine(zbD r (o+1) (w.setCell ⟨b,o,none⟩ v) _ (h.set o v)).congr (fun j _=>?_);by_cases e:j=o
  ·subst e;rw[ya (by omega),yb rfl,yb (by simp)];simp
  ·by_cases E:o+1<=j/\j<o+1+r.length
   ·rw[yb E,yb (by simp;omega),show j-o=(j-(o+1))+1 by omega];simp
   ·rw[ya E,ya e,ya (by simp;omega)]
theorem zbC{X:Nat->Prop}{b:Nat}(D:X b):∀ (F:List Value) (o:Nat) (w:World),Off X w (w.setCells b o F)
 | [],_,w=>Off.refl _ w
 | v :: r,o,w=>by
  have step:Off X w (w.setCell ⟨b,o,none⟩ v):=⟨rfl,rfl,rfl,by simp,fun k _ E=>yv w ⟨b,o,none⟩ v k (fun e=>E (by rw[e];exact D))⟩;exact step.trans (zbC D r (o+1) (w.setCell ⟨b,o,none⟩ v))
theorem Off.drew{X:Nat->Prop}{w w' : World}(h:Off X w w'):Off X w w'.drew:=⟨h.os,h.tape,h.output,h.size,h.block⟩
theorem Off.mono{X Y:Nat->Prop}{w w' : World}(h:Off X w w')(D:∀ k,k<w.heap.size->X k->Y k):Off Y w w' :=⟨h.os,h.tape,h.output,h.size,fun k E I=>h.block k E (fun F=>I (D k E F))⟩
def zgG(w:World)(kb:Nat)(l:List Int)(e:Ending)(w' : World):Prop :=
 ∃ D E,e=.returned (.slice (some ⟨D,0,none⟩) l.length E)/\l.length<=E/\(D=kb\/w.heap.size<=D)/\Off (fun b=>b=kb) w w' /\ ∃ G,w'.rowIs D 3 E G/\∀ j,j<l.length->G j=.int .i64 (l.getD j 0)
theorem zlE{ks:List Int}{j:Nat}{v:Value}(h:(ks.map (Value.int .i64))[j]?=some v):j<ks.length/\v=.int .i64 (ks.getD j 0):=by
 obtain⟨hl,E⟩:=List.getElem?_eq_some_iff.1 h;have D:j<ks.length:=by simpa using hl
 refine⟨D,?_⟩;rw[<- E,List.getElem_map,zae ks 0 D]
theorem zmU(kb L kc vb i:Nat)(ks:List Int)(E:Int)(w:World)(I:ks.length=L)(hi:i<L)(a6:kc=L)(a7:L<=1000)(G:Nat->Value)(hG:w.rowIs kb 3 kc G)(M:∀ j,j<L->G j=.int .i64 (ks.getD j 0))(F:w.cell? ⟨vb,0,none⟩=some (.int .i64 E)) :
  yM 218 #[.slice (some ⟨kb,0,none⟩) L kc,.int .i64 i,.slice (some ⟨vb,0,none⟩) 1 1] w (zgG w kb (ins ks i E)):=by
 have h:=Any2.slices_Insert_int_grow (P:=Tryz.prog) (ρ:=Tryz.lays21_ren) Tryz.lays21 kb 0 L kc i vb 0 1 1 (ks.map (Value.int .i64)) [.int .i64 E] w hi (by omega) (by omega) (by omega) (by omega) (by simpa using I) rfl
  (fun j v D=>by
   obtain⟨h1,rfl⟩:=zlE D;rw[yB,hG.cell (by omega),M j (by omega)])
  (fun j v D=>by
   match j,D with
   | 0,D=>simp at D;subst D;simpa using F)
  (fun v F=>by simp at F;obtain⟨y,_,rfl⟩:=F;rfl) (fun v F=>by simp at F;subst F;rfl)
 refine ye (show yM 218 _ _ _ from h) ?_;rintro e w' ⟨rfl,rfl⟩;have a5:=grownCap_ge w (L+1) kc (Tryz.lays21_ren.t 3);have hl:=zfO ks i E (by omega);generalize grownCap w (L+1) kc (Tryz.lays21_ren.t 3)=cap at *;refine⟨w.heap.size,cap,by rw[hl,I],by omega,Or.inr (yj _),?_,?_⟩
 ·refine Off.mono (X:=fun b=>b=w.heap.size) ?_ (fun k hk e=>by omega);exact(((Off.of_below ((yk _ _).alloc (yj _) _)).drew.trans (zbC (X:=fun b=>b=w.heap.size) rfl _ _ _)).drew).trans (zbC (X:=fun b=>b=w.heap.size) rfl _ _ _)
 ·have hA:(((ks.map (Value.int .i64)).take i).toArray++Builtin.zeroCells (Value.int .i64 0).cells (L+1-i)++Builtin.zeroCells (Value.int .i64 0).cells (cap-(L+1))).size=cap:=by
   simp[size_zeroCells,Value.cells,I];omega
  have J:∀ j,j<i->(((ks.map (Value.int .i64)).take i).toArray++Builtin.zeroCells (Value.int .i64 0).cells (L+1-i)++Builtin.zeroCells (Value.int .i64 0).cells (cap-(L+1)))[j]?=some (.int .i64 (ks.getD j 0)):=fun j D=>by
   have T:j<ks.length:=(by omega);rw[Array.getElem?_append_left (by simp;omega),Array.getElem?_append_left (by simp;omega)];simp[D,T]
  generalize (((ks.map (Value.int .i64)).take i).toArray++Builtin.zeroCells (Value.int .i64 0).cells (L+1-i)++Builtin.zeroCells (Value.int .i64 0).cells (cap-(L+1)))=A at *;have hr:=World.rowIs_alloc w A 3 (fun j=>A[j]?.getD undef) (fun j D=>by simp[D]);rw[hA] at hr;have U:=zbD [.int .i64 E] i _ _ hr.drew;have Z:=zbD ((ks.map (Value.int .i64)).drop i) (i+1) _ _ U.drew;refine⟨_,Z,fun j D=>?_⟩;rw[hl,I] at D;have O:((ks.map (Value.int .i64)).drop i).length=L-i:=by simp[I]
  by_cases h1:i<j
  ·rw[yb (by rw[O];omega),zpE ks i j E (by omega) h1,zae ks 0 (by omega)];have:i+(j-(i+1))=j-1:=(by omega);simp[List.getD,this,show j-1<ks.length by omega]
  ·rw[ya (by omega)];by_cases h2:j=i
   ·subst h2;rw[yb (by simp),ziH ks j E (by omega)];simp
   ·rw[ya (by simp;omega),zlC ks i j E (by omega) (by omega),J j (by omega)];rfl
theorem zow(kb L kc T:Nat)(ks:List Int)(E:Int)(w:World)(F:ks.length=L)(a5:kc=L)(a6:L<=1000)(G:Nat->Value)(hG:w.rowIs kb 3 kc G)(M:∀ j,j<L->G j=.int .i64 (ks.getD j 0))(J:w.cell? ⟨T,0,none⟩=some (.int .i64 E)) :
  yM 218 #[.slice (some ⟨kb,0,none⟩) L kc,.int .i64 L,.slice (some ⟨T,0,none⟩) 1 1] w (zgG w kb (ins ks L E)):=by
 have h:=Any2.slices_Insert_int_end_grow (P:=Tryz.prog) (ρ:=Tryz.lays21_ren) Tryz.lays21 (some ⟨kb,0,none⟩) L kc T 0 1 1 (ks.map (Value.int .i64)) [.int .i64 E] w (by omega) (by omega) (by omega) (by omega) (by simpa using F) rfl (fun h=>by cases h)
  (fun a ha j v D=>by
   cases ha;obtain⟨h1,rfl⟩:=zlE D;rw[Addr.add_lit,yB,hG.cell (by omega),M j (by omega)])
  (fun j v D=>by
   match j,D with
   | 0,D=>simp at D;subst D;simpa using J)
  (fun v J=>by simp at J;subst J;rfl)
 refine ye (show yM 218 _ _ _ from h) ?_;rintro e w' ⟨rfl,rfl⟩;have U:=grownCap_ge w (L+1) kc (Tryz.lays21_ren.t 3);have hl:=zfO ks L E (by omega);generalize grownCap w (L+1) kc (Tryz.lays21_ren.t 3)=cap at *;refine⟨w.heap.size,cap,by rw[hl,F],by omega,Or.inr (yj _),?_,?_⟩
 ·exact Off.of_below ((yk _ _).drew.alloc (yj _) _)
 ·have hA:((ks.map (Value.int .i64)++[Value.int .i64 E]).toArray++Builtin.zeroCells (Value.int .i64 0).cells (cap-(L+1))).size=cap:=by
   simp[size_zeroCells,Value.cells,F];omega
  have I:∀ j,j<L+1->((ks.map (Value.int .i64)++[Value.int .i64 E]).toArray++Builtin.zeroCells (Value.int .i64 0).cells (cap-(L+1)))[j]?=some (.int .i64 ((ins ks L E).getD j 0)):=fun j D=>by
   rw[Array.getElem?_append_left (by simp;omega)];by_cases e:j=L
   ·rw[e,ziH ks L E (by omega),<- F];simp
   ·have O:j<ks.length:=(by omega);rw[zlC ks L j E (by omega) (by omega)];simp[List.getElem?_append,O]
  generalize ((ks.map (Value.int .i64)++[Value.int .i64 E]).toArray++Builtin.zeroCells (Value.int .i64 0).cells (cap-(L+1)))=A at *;have Z:=World.rowIs_alloc w.drew A 3 (fun j=>A[j]?.getD undef) (fun j D=>by simp[D]);rw[hA] at Z;refine⟨_,Z,fun j D=>?_⟩;rw[hl,F] at D;rw[I j D];rfl
theorem zmV(kb L kc M:Nat)(ks:List Int)(E:Int)(w:World)(O:ks.length=L)(T:L+1<=kc)(U:kc<=1000000000)(G:Nat->Value)(I:w.rowIs kb 3 kc G)(J:∀ j,j<L->G j=.int .i64 (ks.getD j 0))(F:w.cell? ⟨M,0,none⟩=some (.int .i64 E)) :
  yM 218 #[.slice (some ⟨kb,0,none⟩) L kc,.int .i64 L,.slice (some ⟨M,0,none⟩) 1 1] w (zgG w kb (ins ks L E)):=by
 have h:=Any2.slices_Insert_int_end_room (P:=Tryz.prog) (ρ:=Tryz.lays21_ren) Tryz.lays21 kb 0 L kc M 0 1 1 [.int .i64 E] w (by omega) (by omega) (by omega) rfl
  (fun j D=>by rw[I.cell (by omega)];rfl) (fun j _=>I.frozen _)
  (fun j v D=>by
   match j,D with
   | 0,D=>simp at D;subst D;simpa using F)
  (fun v F=>by simp at F;subst F;rfl)
 refine ye (show yM 218 _ _ _ from h) ?_;rintro e w' ⟨rfl,rfl⟩;have hl:=zfO ks L E (by omega);refine⟨kb,kc,by rw[hl,O],by omega,Or.inl rfl,zbC (X:=fun b=>b=kb) rfl _ _ _,_,zbD _ _ _ _ I,fun j D=>?_⟩;rw[hl,O] at D;by_cases e:j=L
 ·rw[yb (by simp;omega),e,ziH ks L E (by omega)];simp
 ·rw[ya (by simp;omega),zlC ks L j E (by omega) (by omega),J j (by omega)]
theorem zlD(kb L kc I i:Nat)(ks:List Int)(F:Int)(w:World)(T:ks.length=L)(hi:i<L)(a7:L+1<=kc)(a8:kc<=1000000000)(G:Nat->Value)(J:w.rowIs kb 3 kc G)(M:∀ j,j<L->G j=.int .i64 (ks.getD j 0))(a5:I≠kb)(E:w.heap[I]?=some (.cells #[.int .i64 F] 3 (0,0))) :
  yM 218 #[.slice (some ⟨kb,0,none⟩) L kc,.int .i64 i,.slice (some ⟨I,0,none⟩) 1 1] w (zgG w kb (ins ks i F)):=by
 have a6:w.cell? ⟨I,0,none⟩=some (.int .i64 F):=by simp[World.cell?,E]
 have O:∀ o,w.frozen? ⟨I,o,none⟩=false:=fun o=>by simp[World.frozen?,E]
 have Z:w.shape? kb=some (3,kc):=by
  obtain⟨c,hc,hs,_⟩:=J;simp[World.shape?,hc,hs]
 have h:=Any2.slices_Insert_int_shift (P:=Tryz.prog) (ρ:=Tryz.lays21_ren) Tryz.lays21 kb 0 L kc i I 0 1 1 (ks.map (Value.int .i64)) [.int .i64 F] w hi (by omega) (by omega) (by omega) a5 (by simpa using T) rfl
  (fun j v D=>by
   obtain⟨h1,rfl⟩:=zlE D;rw[yB,J.cell (by omega),M j (by omega)])
  (fun j D=>by rw[J.cell (by omega)];rfl) (fun j _=>J.frozen _)
  (fun j v D=>by
   match j,D with
   | 0,D=>simp at D;subst D;simpa using a6)
  (fun v E=>by simp at E;obtain⟨y,_,rfl⟩:=E;rfl) (fun v E=>by simp at E;subst E;rfl)
  3 3 1 kc (by simp[World.shape?,E]) Z (by omega) (O _) (O _)
 refine ye (show yM 218 _ _ _ from h) ?_;rintro e w' ⟨rfl,rfl⟩;have hl:=zfO ks i F (by omega);refine⟨kb,kc,by rw[hl,T],by omega,Or.inl rfl,(Off.refl _ _).drew.trans ((zbC (X:=fun b=>b=kb) rfl _ _ _).trans (zbC (X:=fun b=>b=kb) rfl _ _ _)),_,zbD _ _ _ _ (zbD _ _ _ _ J.drew),fun j D=>?_⟩;rw[hl,T] at D;have U:((ks.map (Value.int .i64)).drop i).length=L-i:=by simp[T]
 by_cases h2:j=i
 ·subst h2;rw[yb (by simp),ziH ks j F (by omega)];simp
 ·rw[ya (by simp;omega)];by_cases h1:i<j
  ·rw[yb (by rw[U];omega),zpE ks i j F (by omega) h1,zae ks 0 (by omega)];simp[List.getD];rw[show i+(j-(i+1))=j-1 by omega];simp[show j-1<ks.length by omega]
  ·rw[ya (by omega),zlC ks i j F (by omega) (by omega),M j (by omega)]
theorem zov(kb L kc E i:Nat)(ks:List Int)(F:Int)(w:World)(M:ks.length=L)(hi:i<=L)(Z:L<=kc)(a5:kc<=1000)(G:Nat->Value)(J:w.rowIs kb 3 kc G)(D:∀ j,j<L->G j=.int .i64 (ks.getD j 0))(T:E≠kb)(U:w.heap[E]?=some (.cells #[.int .i64 F] 3 (0,0))) :
  yM 218 #[.slice (some ⟨kb,0,none⟩) L kc,.int .i64 i,.slice (some ⟨E,0,none⟩) 1 1] w (zgG w kb (ins ks i F)):=by
 have I:w.cell? ⟨E,0,none⟩=some (.int .i64 F):=by simp[World.cell?,U]
 by_cases h1:i=L
 ·subst h1;by_cases O:kc=i
  ·exact zow kb i kc E ks F w M O (by omega) G J D I
  ·exact zmV kb i kc E ks F w M (by omega) (by omega) G J D I
 ·by_cases O:kc=L
  ·exact zmU kb L kc E i ks F w M (by omega) O (by omega) G J D I
  ·exact zlD kb L kc E i ks F w M (by omega) (by omega) (by omega) G J D T U
theorem zri{w:World}{g:Nat}{S:List Nd}{F:Nat->Value}(D:w.rowIs g 57 (S.length*8) F)
  (h:∀ i,i<S.length->F (i*8)=.bool (nd S i).u/\F (i*8+1)=.int .i64 (nd S i).n/\F (i*8+2)=.int .i64 (nd S i).t/\F (i*8+3)=.int .i64 (nd S i).m/\F (i*8+4)=.int .i64 (nd S i).p/\(∃ ka kc,F (i*8+5)=.slice ka (nd S i).ks.length kc/\zaj w ka (nd S i).ks)/\F (i*8+6)=.int .i64 (nd S i).h/\F (i*8+7)=.bool (nd S i).c) :
  zai w (some ⟨g,0,none⟩) S:=fun i hi=>by
 obtain⟨E,I,J,M,O,⟨ka,kc,T,hk⟩,U,Z⟩:=h i hi;refine⟨g,0,rfl,?_⟩;rw[yB];refine⟨?_,?_,?_,?_,?_,⟨ka,kc,?_,hk⟩,?_,?_⟩
 ·rw[D.cell (by omega),E]
 ·rw[D.cell (by omega),I]
 ·rw[D.cell (by omega),J]
 ·rw[D.cell (by omega),M]
 ·rw[D.cell (by omega),O]
 ·rw[D.cell (by omega),T]
 ·rw[D.cell (by omega),U]
 ·rw[D.cell (by omega),Z]
theorem zbN{w:World}{kb kc:Nat}{ks:List Int}{G:Nat->Value}(D:w.rowIs kb 3 kc G)(hl:ks.length<=kc)(h:∀ j,j<ks.length->G j=.int .i64 (ks.getD j 0)):zaj w (some ⟨kb,0,none⟩) ks:=fun j E =>
 ⟨kb,0,rfl,by rw[yB,D.cell (by omega),h j E]⟩
def zgl(S:List Nd)(pa D i:Nat)(j:Nat):Nd :=
 if j=D then ⟨(nd S D).u,(nd S D).n,(nd S D).t,(nd S D).m,pa,(nd S D).ks,(nd S D).h,(nd S D).c⟩
 else if j=pa then ⟨(nd S pa).u,(nd S pa).n,(nd S pa).t,(nd S pa).m,(nd S pa).p,ins (nd S pa).ks i D,(nd S pa).h,(nd S pa).c⟩
 else nd S j
def zbm(S:List Nd)(pa D i:Nat):List Nd:=(List.range S.length).map (zgl S pa D i)
theorem zbp(S:List Nd)(pa D i:Nat):(zbm S pa D i).length=S.length:=by simp[zbm]
theorem zfs(S:List Nd)(pa D i j:Nat)(E:j<S.length):nd (zbm S pa D i) j=zgl S pa D i j:=by
 rw[zbf (by rw[zbp];exact E)];simp[zbm]
def atS(ks:List Int):List (Int × Int)->Int
 | []=>ks.length
 | h :: _=>idx ks h.1
theorem zof{w w2:World}{B g:Nat}{S:List Nd}{kb kc:Nat->Nat}(hO:Own w B g S kb kc S.length){W:World}(hb:Below w.heap.size w W){pa E i D I:Nat}(hpa:pa<S.length)(hch:E<S.length)(b2:pa≠E)
  (hi:i<=(nd S pa).ks.length) (a6:D=kb pa\/W.heap.size<=D) (a7:Off (fun b=>b=kb pa) W w2) {G:Nat->Value} (hG:w2.rowIs D 3 I G) (b1:(ins (nd S pa).ks i E).length<=I) (a8:∀ j,j<(ins (nd S pa).ks i E).length->G j=.int .i64 ((ins (nd S pa).ks i E).getD j 0)) :
  ∀ w3:World,(∀ b,g<=b->w3.heap[b]?=((w2.setCell ⟨g,pa*8+5,none⟩ (.slice (some ⟨D,0,none⟩) (ins (nd S pa).ks i E).length I)).setCell ⟨g,E*8+4,none⟩ (.int .i64 pa)).heap[b]?)->zai w3 (some ⟨g,0,none⟩) (zbm S pa E i):=by
 intro w3 O;obtain⟨_,F,hF,hN,hg,hd⟩:=hO;have a9:=hF.lt;have hW:∀ b,b<w.heap.size->b≠kb pa->w2.heap[b]?=w.heap[b]?:=fun b h1 U=>(a7.block b (yz h1 hb.size) U).trans (hb.block b h1);have a5:g≠kb pa:=by have:=hg pa hpa;omega
 have Z:=(((hF.of_block (hW g a9 a5)).set (pa*8+5) (.slice (some ⟨D,0,none⟩) (ins (nd S pa).ks i E).length I)).set (E*8+4) (.int .i64 pa)).of_block (O g (yj _))
 have b0:D≠g:=by
  rcases a6 with h|h
  ·rw[h];exact fun e=>a5 e.symm
  ·have:=hb.size;omega
 have T:g<=D:=by
  rcases a6 with h|h
  ·rw[h];exact Nat.le_of_lt (hg pa hpa)
  ·have:=hb.size;omega
 rw[<- zbp S pa E i] at Z;refine zri Z (fun j J=>?_);rw[zbp] at J;rw[zfs S pa E i j J];obtain⟨e0,e1,e2,e3,e4,e5,e6,e7,e8,b3,G0,M,e9⟩:=hN j J;unfold zgl;by_cases h1:j=E
 ·subst h1;rw[yb rfl]
  have hr:w3.rowIs (kb j) 3 (kc j) G0 :=
   (((M.of_block (hW (kb j) M.lt (fun e=>b2 (hd pa hpa j J e.symm)))).setOther (by have:=hg j J;simp;omega) _).setOther (by have:=hg j J;simp;omega) _).of_block (O (kb j) (Nat.le_of_lt (hg j J)))
  refine⟨?_,?_,?_,?_,?_,⟨some ⟨kb j,0,none⟩,kc j,?_,zbN hr e8 e9⟩,?_,?_⟩
  all_goals dsimp only
  ·rw[ya (by omega),ya (by omega),e0]
  ·rw[ya (by omega),ya (by omega),e1]
  ·rw[ya (by omega),ya (by omega),e2]
  ·rw[ya (by omega),ya (by omega),e3]
  ·rw[yb rfl]
  ·rw[ya (by omega),ya (by omega),e5]
  ·rw[ya (by omega),ya (by omega),e6]
  ·rw[ya (by omega),ya (by omega),e7]
 ·rw[ya h1];by_cases U:j=pa
  ·subst U;rw[yb rfl];have hr:=((hG.setOther (a:=⟨g,j*8+5,none⟩) (by simp;omega) (.slice (some ⟨D,0,none⟩) (ins (nd S j).ks i E).length I)).setOther (a:=⟨g,E*8+4,none⟩) (by simp;omega) (.int .i64 j)).of_block (O D T);refine⟨?_,?_,?_,?_,?_,⟨some ⟨D,0,none⟩,I,?_,zbN hr b1 a8⟩,?_,?_⟩
   all_goals dsimp only
   ·rw[ya (by omega),ya (by omega),e0]
   ·rw[ya (by omega),ya (by omega),e1]
   ·rw[ya (by omega),ya (by omega),e2]
   ·rw[ya (by omega),ya (by omega),e3]
   ·rw[ya (by omega),ya (by omega),e4]
   ·rw[ya (by omega),yb rfl]
   ·rw[ya (by omega),ya (by omega),e6]
   ·rw[ya (by omega),ya (by omega),e7]
  ·rw[ya U]
   have hr:w3.rowIs (kb j) 3 (kc j) G0 :=
    (((M.of_block (hW (kb j) M.lt (fun e=>U (hd j J pa hpa e)))).setOther (by have:=hg j J;simp;omega) _).setOther (by have:=hg j J;simp;omega) _).of_block (O (kb j) (Nat.le_of_lt (hg j J)))
   refine⟨?_,?_,?_,?_,?_,⟨some ⟨kb j,0,none⟩,kc j,?_,zbN hr e8 e9⟩,?_,?_⟩
   all_goals
    rw[ya (by omega),ya (by omega)];assumption
structure WF (S:List Nd):Prop where
 small:S.length<=24
 node:∀ i,i<S.length->zfv S.length (nd S i)=0
 kids:zeS S
 hosts:zgh S S.length
 noring:∀ i,i<S.length->zbs S i i=false
theorem zgn(N:Int):∀ l:List Nd,zbZ N l=0↔∀ x ∈ l,zfv N x=0
 | []=>by simp[zbZ]
 | x :: r=>by
  simp only[zbZ,List.mem_cons];by_cases h:zfv N x=0
  ·rw[yb h,zgn N r];exact⟨fun H y D=>D.elim (fun e=>by rw[e];exact h) (H y),fun H y D=>H y (Or.inr D)⟩
  ·rw[ya h];exact⟨fun H=>absurd H h,fun H=>absurd (H x (Or.inl rfl)) h⟩
theorem zfC(S:List Nd):zbo S=0↔WF S:=by
 unfold zbo zuX zuF;constructor
 ·intro h
  split at h
  ·omega
  ·rename_i I
   split at h
   ·rename_i h1;rw[zgn] at h1
    split at h
    ·rename_i E
     split at h
     ·rename_i F
      split at h
      ·omega
      ·rename_i D;refine⟨by omega,fun i hi=>h1 _ (by rw[zbf hi];exact List.getElem_mem hi),of_decide_eq_true E,of_decide_eq_true F,fun i hi=>?_⟩;simp only[Bool.not_eq_true,List.any_eq_false,List.mem_range] at D;have:=D i hi;simpa using this
     ·omega
    ·omega
   ·exact absurd h (by assumption)
 ·rintro⟨h0,h1,E,F,D⟩
  rw[ya (by omega),yb ((zgn _ _).2 fun x J=>by
   obtain⟨i,hi,rfl⟩:=List.getElem_of_mem J;have:=h1 i hi
   rwa [zbf hi] at this),yb (yG E),yb (yG F),ya]
  simp only[Bool.not_eq_true,List.any_eq_false,List.mem_range];intro i hi;rw[D i hi]
theorem zbd{N:Int}{x:Nd}(h:zfv N x=0):zcS x=true/\zeg N x=true/\zec x=true:=by
 unfold zfv at h
 split at h
 ·split at h
  ·split at h
   ·exact⟨by assumption,by assumption,by assumption⟩
   ·omega
  ·omega
 ·omega
theorem WF.kid{S:List Nd}(h:WF S){i:Nat}(hi:i<S.length){x:Int}(J:x ∈ (nd S i).ks) :
  ∃ k:Nat,x=k/\k<S.length/\(nd S k).u=true/\(nd S k).p=i/\zam (nd S k)=i:=by
 have h1:=(zha (zhb (h.node i hi))).1 x J;obtain⟨M,E,F⟩:=h.kids.1 i hi x J;obtain⟨k,rfl⟩:∃ k:Nat,x=(k:Int):=⟨x.toNat,by omega⟩;have I:k<S.length:=by omega
 simp only[yi] at E F;refine⟨k,rfl,I,E,F,?_⟩;have D:=(zbd (h.node k I)).2.2;unfold zec at D;rw[yb E] at D;unfold zam
 split at D
 ·cases D
 ·split at D
  ·rename_i hh;rw[yb hh];exact F
  ·have:=of_decide_eq_true D;omega
def Up(S:List Nd):Nat->Nat->Nat->Prop
 | 0,x,p=>x=p
 | j+1,x,p=>∃ y:Nat,y<S.length/\zam (nd S x)=y/\Up S j y p
theorem Up.det{S:List Nd}:∀ {j x p q:Nat},Up S j x p->Up S j x q->p=q
 | 0,_,_,_,h,k=>by cases h;cases k;rfl
 | j+1,_,_,_,⟨y,_,I,D⟩,⟨F,_,J,E⟩=>by
  have:y=F:=by omega
  subst this;exact Up.det D E
theorem Up.trans{S:List Nd}:∀ {i j x y z:Nat},Up S i x y->Up S j y z->Up S (i+j) x z
 | 0,j,_,_,_,h,k=>by cases h;simpa using k
 | i+1,j,_,_,_,⟨F,h1,D,E⟩,k=>by
  rw[show i+1+j=(i+j)+1 by omega];exact⟨F,h1,D,Up.trans E k⟩
theorem Up.split{S:List Nd}:∀ {i j x z:Nat},Up S (i+j) x z->∃ y,Up S i x y/\Up S j y z
 | 0,j,x,_,h=>⟨x,rfl,by simpa using h⟩
 | i+1,j,x,z,h=>by
  rw[show i+1+j=(i+j)+1 by omega] at h;obtain⟨J,h1,D,E⟩:=h;obtain⟨y,F,I⟩:=Up.split E;exact⟨y,⟨J,h1,D,F⟩,I⟩
theorem zlt{S:List Nd}:∀ {j x D f:Nat} (st:Bool),Up S (j+1) x D->j+1<=f->zbA S zam (zet D) f (zam (nd S x)) st=true
 | j,x,D,0,_,_,I=>by omega
 | j,x,D,f+1,st,⟨y,h1,F,E⟩,I=>by
  rw[F];have J:zij S.length (y:Int)=true:=yG ⟨by omega,by omega⟩;simp only[zbA,J,if_true,zet,yi];by_cases e:(y:Int)=(D:Int)
  ·simp[e]
  ·simp only[yF e,Bool.not_false,if_true]
   cases j with
   | zero=>exact absurd (by cases E;rfl) e
   | succ j=>exact zlt _ E (by omega)
theorem WF.no_ring{S:List Nd}(h:WF S){x j:Nat}(I:x<S.length)(h1:1<=j)(D:j<=S.length):¬ Up S j x x:=fun F=>by
 obtain⟨j,rfl⟩:∃ i,j=i+1:=⟨j-1,by omega⟩;have:=h.noring x I;unfold zbs at this;have E:zij S.length (x:Int)=true:=yG ⟨by omega,by omega⟩;rw[E,yb rfl,yi,zlt false F D] at this;cases this
theorem WF.up_one{S:List Nd}{i k:Nat}(hi:i<S.length)(D:zam (nd S k)=i):Up S 1 k i:=⟨i,hi,D,rfl⟩
theorem ziK{N:Nat}{l:List Nat}(h:l.Nodup)(hl:∀ y ∈ l,y<N):l.length<=N:=by
 have:=h.length_le_of_subset (l₂:=List.range N) (fun y D=>List.mem_range.2 (hl y D));simpa using this
theorem WF.deep{S:List Nd}(h:WF S):∀ (f x:Nat) (r:List Nat),x<S.length->(x :: r).Nodup->(∀ y ∈ r,y<S.length)->(∀ y ∈ r,∃ j,1<=j/\j<=r.length/\Up S j x y)->S.length<=f+r.length+1->Deep S f x:=by
 have step:∀ (x:Nat) (r:List Nat),x<S.length->(x :: r).Nodup->(∀ y ∈ r,y<S.length)->(∀ y ∈ r,∃ j,1<=j/\j<=r.length/\Up S j x y)->∀ k:Nat,k<S.length->zam (nd S k)=x ->
   (k :: x :: r).Nodup/\(∀ y ∈ x :: r,y<S.length)/\(∀ y ∈ x :: r,∃ j,1<=j/\j<=(x :: r).length/\Up S j k y):=fun x r F hn O T k J D=>by
  have I:∀ y ∈ x :: r,y<S.length:=fun y E=>by
   rcases List.mem_cons.1 E with rfl|E
   ·exact F
   ·exact O y E
  have hlen:=ziK hn I
  have U:∀ y ∈ x :: r,∃ j,1<=j/\j<=(x :: r).length/\Up S j k y:=fun y E=>by
   rcases List.mem_cons.1 E with rfl|E
   ·exact⟨1,by omega,by simp,WF.up_one F D⟩
   ·obtain⟨j,j1,j2,j3⟩:=T y E;exact⟨1+j,by omega,by simp;omega,(WF.up_one F D).trans j3⟩
  refine⟨List.nodup_cons.2 ⟨fun hm=>?_,hn⟩,I,U⟩;obtain⟨j,j1,j2,j3⟩:=U k hm;exact h.no_ring J j1 (by omega) j3
 intro f
 induction f with
 | zero =>
  intro x r F hn O T hf;show (nd S x).ks=[]
  cases hks:(nd S x).ks with
  | nil=>rfl
  | cons k ks =>
   obtain⟨k', rfl,J,_,_,D⟩:=h.kid F (x:=k) (by rw[hks];simp);obtain⟨h1,Z,h3⟩:=step x r F hn O T k' J D
   have:=ziK h1 (fun y E=>by
    rcases List.mem_cons.1 E with rfl|E
    ·exact J
    ·exact Z y E)
   simp at this;omega
 | succ f ih =>
  intro x r F hn O T hf k J;obtain⟨k', rfl,M,_,_,D⟩:=h.kid F J;obtain⟨h1,Z,h3⟩:=step x r F hn O T k' M D;refine⟨⟨by omega,by omega⟩,?_⟩;rw[yi];exact ih k' (x :: r) M h1 Z h3 (by simp;omega)
theorem WF.deep_all{S:List Nd}(h:WF S){p:Nat}(E:p<S.length):Deep S S.length p :=
 h.deep S.length p [] E (by simp) (fun y D=>by cases D) (fun y D=>by cases D) (by omega)
end Go.Proofs.YtcbcpomacdngmaaGreat
