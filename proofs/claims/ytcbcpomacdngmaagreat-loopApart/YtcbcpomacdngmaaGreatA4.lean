/-
  x
-/
import Derived.Test.YtcbcpomacdngmaaGreatA3
namespace Go.Proofs.YtcbcpomacdngmaaGreat
set_option maxRecDepth 100000
set_option maxHeartbeats 4000000
set_option linter.unusedVariables false
open Go.RowKit Tryz
variable{S:List Nd}{B g k i:Nat}{w:Wd}
theorem Own.below{w w' : World}{kb kc:Nat->Nat}(h:Own w B g S kb kc k)(hb:Bl w w'):Own w' B g S kb kc k:=by
 obtain⟨I,F,D,E,hg,hd⟩:=h;exact⟨I,F,D.of_block (hb.block g D.lt),fun i hi=>(E i hi).below hb (E i hi).row,hg,hd⟩
theorem Own.setOther{kb kc:Nat->Nat}(h:Own w B g S kb kc k){a:Addr}(ha:a.block<g)(v:Value):Own (w.setCell a v) B g S kb kc k:=by
 obtain⟨hB,F,hF,hN,hg,hd⟩:=h;refine⟨hB,F,hF.setOther oaa v,fun i hi=>?_,hg,hd⟩;obtain⟨E,I,J,M,O,T,U,Z,e8,D,G,hG,e9⟩:=hN i hi;exact⟨E,I,J,M,O,T,U,Z,e8,D,G,hG.setOther (by have:=hg i hi;omega) v,e9⟩
def RNd(S:List Nd)(i:Nat)(y:ENd)(lo hi:Nat)(V:Wd):Prop :=
 y.u=(nd S i).u/\y.n=(nd S i).n/\y.t=(nd S i).t/\y.m=(nd S i).m/\y.p=(nd S i).p/\y.h=(nd S i).h/\y.c=(nd S i).c/\y.kl=(nd S i).ks.length/\y.kc=(nd S i).ks.length/\∃ kb,y.ka=some ⟨kb,0,none⟩/\lo<=kb/\kb<hi/\V.rowIs kb 3 (nd S i).ks.length (fun j=>.int .i64 ((nd S i).ks.getD j 0))
theorem Ch(hB:B<=g)(hK:∀ i,i<S.length->(nd S i).ks.length<=1000)(h:aN tZ 57 8 S.length (RNd S) g S.length w):∃ kb kc,Own w B g S kb kc S.length:=by
 obtain⟨v,lo,hi,F,hF,hv⟩:=h
 have key:∀ i,i<S.length->(v i).ka=some ⟨((v i).ka.getD ⟨0,0,none⟩).block,0,none⟩/\lo i<=((v i).ka.getD ⟨0,0,none⟩).block/\((v i).ka.getD ⟨0,0,none⟩).block<hi i:=fun i D=>by
  obtain⟨_,_,_,_,_,_,_,_,_,kb,e,h1,h2,_⟩:=(hv i D).2.2.2.2.2.at;rw[e];exact⟨rfl,h1,h2⟩
 refine⟨fun i=>((v i).ka.getD ⟨0,0,none⟩).block,fun i=>(nd S i).ks.length,hB,F,hF,fun i D=>?_,fun i D=>?_,fun i D j I e=>?_⟩
 ·obtain⟨h1,_,_,_,_,h6⟩:=hv i D;obtain⟨J,M,O,T,U,Z,e7,el,ec,kb,E,_,_,hr⟩:=h6.at;refine⟨?_,?_,?_,?_,?_,?_,?_,?_,yr _,hK i D,_,?_,fun j _=>rfl⟩
  ·exact(h1 0 oaa).trans (congrArg Value.bool J)
  ·exact(h1 1 oaa).trans (congrArg (Value.int .i64) M)
  ·exact(h1 2 oaa).trans (congrArg (Value.int .i64) O)
  ·exact(h1 3 oaa).trans (congrArg (Value.int .i64) T)
  ·exact(h1 4 oaa).trans (congrArg (Value.int .i64) U)
  ·refine(h1 5 oaa).trans ?_;show Value.slice (v i).ka (v i).kl (v i).kc=Value.slice (some ⟨((v i).ka.getD ⟨0,0,none⟩).block,0,none⟩) (nd S i).ks.length (nd S i).ks.length;rw[el,ec,E];rfl
  ·exact(h1 6 oaa).trans (congrArg (Value.int .i64) Z)
  ·exact(h1 7 oaa).trans (congrArg Value.bool e7)
  ·show w.rowIs ((v i).ka.getD ⟨0,0,none⟩).block _ _ _;rw[E];exact hr
 ·have:=(hv i D).2.1;have:=(key i D).2.1;show g<((v i).ka.getD ⟨0,0,none⟩).block;omega
 ·have k1:=(key i D).2;have k2:=(key j I).2;rcases Nat.lt_trichotomy i j with h|h|h
  ·have:=(hv j I).2.2.2.2.1 i h;dsimp only at e;omega
  ·exact h
  ·have:=(hv i D).2.2.2.2.1 j h;dsimp only at e;omega
theorem Ci(a:OA)(c:Nat)(S:List Nd)(w:Wd)(Z:S.length<=24)(hK:∀ i,i<S.length->(nd S i).ks.length<=1000)(O:aD w a S) :
  yO 133 #[.slice a S.length c,.func (.func 44) #[] #[]] w fun e w' => e=.returned (.slice (some ⟨w.heap.size,0,none⟩) S.length S.length)/\Below w.heap.size w w' /\ aN tZ 57 8 S.length (RNd S) w.heap.size S.length w' := by
 obtain⟨f,I⟩:=Classical.skolem.1 (fun i=>show ∃ x:OA × Nat,i<S.length->(∃ b o,a=some ⟨b,o,none⟩/\w.cell? ⟨b,o+i*8,none⟩=some (.bool (nd S i).u)/\w.cell? ⟨b,o+i*8+1,none⟩=some (.int .i64 (nd S i).n)/\w.cell? ⟨b,o+i*8+2,none⟩=some (.int .i64 (nd S i).t)/\w.cell? ⟨b,o+i*8+3,none⟩=some (.int .i64 (nd S i).m)/\w.cell? ⟨b,o+i*8+4,none⟩=some (.int .i64 (nd S i).p)/\w.cell? ⟨b,o+i*8+5,none⟩=some (.slice x.1 (nd S i).ks.length x.2)/\w.cell? ⟨b,o+i*8+6,none⟩=some (.int .i64 (nd S i).h)/\w.cell? ⟨b,o+i*8+7,none⟩=some (.bool (nd S i).c))/\aG w x.1 (nd S i).ks by
  by_cases hi:i<S.length
  ·obtain⟨b,o,e,c0,c1,c2,c3,c4,⟨ka,kc,c5,E⟩,J,M⟩:=O i hi;exact⟨(ka,kc),fun _=>⟨⟨b,o,e,c0,c1,c2,c3,c4,c5,J,M⟩,E⟩⟩
  ·exact⟨(none,0),fun h=>absurd h hi⟩)
 refine Cc 44 (yM func44 oad rfl) a c S.length (fun i=>⟨(nd S i).u,(nd S i).n,(nd S i).t,(nd S i).m,(nd S i).p,(f i).1,(nd S i).ks.length,(f i).2,(nd S i).h,(nd S i).c⟩) (RNd S) w oaa (fun i hi=>(I i hi).1) (fun i hi W T=>?_);refine(QB (nd S i) (f i).1 (f i).2 W (by have:=hK i hi;omega) ((I i hi).2.below T)).mono ?_;rintro e w' ⟨g,rfl,hb,hg,D⟩;refine⟨⟨(nd S i).u,(nd S i).n,(nd S i).t,(nd S i).m,(nd S i).p,some ⟨g,0,none⟩,(nd S i).ks.length,(nd S i).ks.length,(nd S i).h,(nd S i).c⟩,rfl,hb,fun w2 U=>⟨rfl,rfl,rfl,rfl,rfl,rfl,rfl,rfl,rfl,g,rfl,hg,D.lt,D.of_block (U.block g D.lt (fun F=>?_))⟩⟩;have:=D.lt;rcases F with F|F <;> omega
theorem copy_any(a:OA)(c:Nat)(S:List Nd)(w:Wd)(hN:S.length<=24)(hK:∀ i,i<S.length->(nd S i).ks.length<=1000)(I:aD w a S) :
  yO 102 #[.agg #[.slice a S.length c]] w fun e w' => ∃ g kb kc,e=.returned (.agg #[.slice (some ⟨g,0,none⟩) S.length S.length])/\Below w.heap.size w w' /\ Own w' w.heap.size g S kb kc S.length:=by
 have D:Hid (∀ J M,Calls _ _ _ _ _):=fun J M=>Ci a c S ((w.alloc J).alloc M) hN hK (I.below (aM _ _ _));have U:Hid (∀ V,aN tZ 57 8 S.length (RNd S) (w.heap.size+1+1) S.length V->∃ kb kc,Own V w.heap.size (w.heap.size+1+1) S kb kc S.length):=fun V h=>Ch oaa hK h;clear I hK;simp only[yw] at D;generalize S.length=n at *
 go_enter func102,ntmps102
 go_wp2_with (go_at_call 133;refine(D _ _).mono ?_;rintro e w3 ⟨rfl,E,F⟩;have Z:Hid _:=F;clear F;have y1:w3.cell? ⟨w.heap.size+1,0,none⟩=some (.slice none 0 0):=(E.cell oac).trans oaf;have y2:∀ o,w3.frozen? ⟨w.heap.size+1,o,none⟩=false:=fun o=>(E.frozen oac).trans oaf;have T:Hid (Bl w w3):=(aM _ _ _).trans (E.mono oaa);clear E)
 obtain⟨kb,kc,O⟩:=U.out w3 Z.out;refine yz (v:=.agg #[.slice (some ⟨w.heap.size+1+1,0,none⟩) n n]) (by simp[results,results102,go_sem,y1]) rfl ⟨w.heap.size+1+1,kb,kc,rfl,T.setCell oac _,O.setOther oac _⟩
theorem QH(x:Nd)(k:Value)(w:Wd) :
  yO 195 #[.agg #[.bool x.u,.int .i64 x.n,.int .i64 x.t,.int .i64 x.m,.int .i64 x.p,k,.int .i64 x.h,.bool x.c]] w fun e w' => e=.returned (.bool (!x.u && decide (x.n<1000000)))/\Below w.heap.size w w' := by
 obtain⟨u,n,t,m,p,ks,h,c⟩:=x;dsimp only;cases u
 ·by_cases hn:n<1000000
  ·have hd:(!false && decide (n<1000000))=true:=(by simp[hn]);rw[hd];clear hd
   go_enter func195,ntmps195
   go_wp2
   go_ret;exact⟨rfl,(yv _ _).alloc (yr _) _⟩
  ·have hd:(!false && decide (n<1000000))=false:=(by simp[hn]);rw[hd];clear hd
   go_enter func195,ntmps195
   go_wp2
   go_ret;exact⟨rfl,(yv _ _).alloc (yr _) _⟩
 ·go_enter func195,ntmps195
  go_wp2
  go_ret;exact⟨rfl,(yv _ _).alloc (yr _) _⟩
def dI(x:Nd):Bool:=!x.u && decide (x.n<1000000)
theorem Cj(a:OA)(c:Nat)(S:List Nd)(w:Wd)(hn:S.length<=9223372036854775807)(M:aD w a S)(k:Nat)(hk:k<S.length)(O:dI (nd S k)=true)(D:∀ i,i<k->dI (nd S i)=false) :
  yO 194 #[.slice a S.length c,.func (.func 195) #[] #[]] w fun e w' => e=.returned (.int .i64 k)/\Below w.heap.size w w' := by
 have HS:Hid (aD w a S):=M;have U:Hid _:=D;have F:Hid _:=O;clear M D O;generalize J:S.length=n at *;have Z:Hid _:=J;clear J
 go_enter func194,ntmps194
 go_wp2
 go_loopg [8] n (fun g s8 wr=>∃ i:Nat,i<=k/\n-i<=g/\s8=.int .i64 i/\Below w.heap.size w wr)
 case atStart=>exact⟨0,oaa,oaa,rfl,yv _ _⟩
 case round =>
  obtain⟨i,hi,hg,rfl,hb⟩:=hrel;have I:i<n:=oaa
  have T:(i:Int)<(n:Int):=oaa
  obtain⟨b,o,rfl,c0,c1,c2,c3,c4,⟨ka,kc,c5,_⟩,c6,c7⟩:=(HS.below hb) i (by rw[Z.out];exact I);have d1:=fun v W=>QH (nd S i) v W;rw[show (!(nd S i).u && decide ((nd S i).n<1000000))=dI (nd S i) from rfl] at d1;by_cases e:i=k
  ·subst e;rw[F.out] at d1;generalize nd S i=x at *
   go_wp2_with (go_at_call 195;refine(d1 _ _).mono ?_;rintro e w' ⟨rfl,E⟩)
   go_ret;exact⟨rfl,hb.trans (E.mono hb.size)⟩
  ·rw[U.out i oaa] at d1;generalize nd S i=x at *
   go_wp2_with (go_at_call 195;refine(d1 _ _).mono ?_;rintro e w' ⟨rfl,E⟩)
   go_roundg (n-(i+1))
   case measure=>omega
   case rel=>exact⟨i+1,oaa,oaa,by go_num,hb.trans (E.mono hb.size)⟩
def fH:Nd:=⟨false,0,0,0,-1,[],-1,false⟩
theorem IL(n i:Nat)(x:Nd)(h:i<n):nd (List.replicate n x) i=x:=by
 rw[eQ (by simpa using h)];simp
theorem Ck(n:Nat)(w:Wd)(hn:n<=24) :
  yO 62 #[.int .i64 n] w fun e w' => ∃ g,e=.returned (.tuple #[.agg #[.slice (some ⟨g,0,none⟩) n n],.int .i64 0])/\Below w.heap.size w w' /\ aD w' (some ⟨g,0,none⟩) (List.replicate n fH)/\w.heap.size<=g/\g<w'.heap.size:=by
 have a8:=Bw n oaa
 go_enter func62,ntmps62
 go_wp2_with (go_at_call 66;refine(wH _ _ _ _ oaa oaa).mono ?_;rintro e w' ⟨rfl,rfl⟩)
 go_loopg [14] n (fun g s14 wr=>∃ (k:Nat) (F:Nat->Value),k<=n/\n-k<=g/\s14=.int .i64 k/\Below (w.heap.size+1) (w.alloc (Obj.cells #[Value.slice none 0 0] 43)) wr/\w.heap.size+1<wr.heap.size/\Hid (wr.rowIs (w.heap.size+1) 57 (n*8) F)/\Hid (∀ i,i<k->F (i*8)=.bool false/\F (i*8+1)=.int .i64 0/\F (i*8+2)=.int .i64 0/\F (i*8+3)=.int .i64 0/\F (i*8+4)=.int .i64 (-1)/\F (i*8+5)=.slice none 0 0/\F (i*8+6)=.int .i64 (-1)/\F (i*8+7)=.bool false))
 case atStart =>
  refine⟨0,fun j=>rC[j % 8]!,Nat.zero_le _,oaa,rfl,(yv _ _).alloc oac _,oac,?_,(show Hid _ from fun i hi=>absurd hi (yB _))⟩;have h:=Bz (w.alloc (Obj.cells #[Value.slice none 0 0] 43)) n;simp only[yw] at h;exact h
 case round =>
  obtain⟨k,F,hk,hg,rfl,hb,a9,E,A⟩:=hrel;have J:wr.cell? ⟨w.heap.size,0,none⟩=some (.slice none 0 0):=(hb.cell oac).trans oaf;have a5:wr.frozen? ⟨w.heap.size,0,none⟩=false:=(hb.frozen oac).trans oaf;by_cases a7:k<n
  ·have q0:=E.cell (i:=k*8) oaa;have q1:=E.cell (i:=k*8+1) oaa;have q2:=E.cell (i:=k*8+2) oaa;have q3:=E.cell (i:=k*8+3) oaa;have q4:=E.cell (i:=k*8+4) oaa;have q5:=E.cell (i:=k*8+5) oaa;have q6:=E.cell (i:=k*8+6) oaa;have q7:=E.cell (i:=k*8+7) oaa;have a6:=E.frozen
   go_wp2_with (go_at_call 93;refine(GZ _ _).mono ?_;rintro e w' ⟨rfl,rfl⟩)
   go_roundg (n-(k+1))
   case measure=>omega
   case rel =>
    refine⟨k+1,_,oaa,oaa,by go_num,?_,oab,(QC E.out (k*8) _ _ _ _ _ _ _ _).alloc _,(show Hid _ from fun i hi=>?_)⟩
    ·exact((((((((hb.setCell oac _).setCell oac _).setCell oac _).setCell oac _).setCell oac _).setCell oac _).setCell oac _).setCell oac _).alloc oab _
    ·by_cases e:i=k
     ·subst e;unfold lX;refine⟨?_,?_,?_,?_,?_,?_,?_,?_⟩
      ·rw[yd oaa,yd oaa,yd oaa,yd oaa,yd oaa,yd oaa,yd oaa,ye rfl]
      ·rw[yd oaa,yd oaa,yd oaa,yd oaa,yd oaa,yd oaa,ye rfl]
      ·rw[yd oaa,yd oaa,yd oaa,yd oaa,yd oaa,ye rfl]
      ·rw[yd oaa,yd oaa,yd oaa,yd oaa,ye rfl]
      ·rw[yd oaa,yd oaa,yd oaa,ye rfl]
      ·rw[yd oaa,yd oaa,ye rfl]
      ·rw[yd oaa,ye rfl]
      ·rw[ye rfl]
     ·obtain⟨M,O,T,U,Z,e5,e6,e7⟩:=A.out i oaa;refine⟨?_,?_,?_,?_,?_,?_,?_,?_⟩
      all_goals
       rw[oL oaa];assumption
  ·have:k=n:=oaa;subst this
   go_wp2
   refine yz (v:=.tuple #[.agg #[.slice (some ⟨w.heap.size+1,0,none⟩) k k],.int .i64 0]) (by simp[results,results62,go_sem,J]) rfl ⟨w.heap.size+1,rfl,?_,fun i hi=>?_,oaa,oab⟩
   ·exact(((yv _ _).alloc (yr _) _).trans (hb.mono oaa)).setCell (yr _) _
   ·have I:i<k:=(by simpa using hi);have D:=E.setOther (a:=⟨w.heap.size,0,none⟩) oac (.slice (some ⟨w.heap.size+1,0,none⟩) k k);obtain⟨M,O,T,U,Z,e5,e6,e7⟩:=A.out i I;rw[IL k i _ I];refine⟨w.heap.size+1,0,rfl,?_⟩;rw[yD];refine⟨?_,?_,?_,?_,?_,⟨none,0,?_,fun j hj=>absurd hj (yB _)⟩,?_,?_⟩
    ·rw[D.cell oaa,M];rfl
    ·rw[D.cell oaa,O];rfl
    ·rw[D.cell oaa,T];rfl
    ·rw[D.cell oaa,U];rfl
    ·rw[D.cell oaa,Z];rfl
    ·rw[D.cell oaa,e5];rfl
    ·rw[D.cell oaa,e6];rfl
    ·rw[D.cell oaa,e7];rfl
theorem iQ(S:List Nd)(k i:Nat)(x:Nd)(D:k<S.length):nd (S.set k x) i=if i=k then x else nd S i:=by
 unfold nd;by_cases e:i=k
 ·subst e;simp[List.getD,D]
 ·rw[yd e];simp[List.getD,Ne.symm e]
theorem pX{w1:Wd}{a:OA}{n c:Nat}(hb:Below (w.heap.size+1+1+1) (((w.alloc (.cells #[.slice a n c] 43)).alloc (.cells #[.slice none 0 0] 43)).alloc (.cells #[.int .i64 0,.int .i64 0] 61)) w1) :
  w1.cell? ⟨w.heap.size,0,none⟩=some (.slice a n c)/\w1.cell? ⟨w.heap.size+1,0,none⟩=some (.slice none 0 0)/\w1.cell? ⟨w.heap.size+1+1,0,none⟩=some (.int .i64 0)/\w1.cell? ⟨w.heap.size+1+1,1,none⟩=some (.int .i64 0) /\
  w1.frozen? ⟨w.heap.size+1,0,none⟩=false/\w1.frozen? ⟨w.heap.size+1+1,0,none⟩=false/\w1.frozen? ⟨w.heap.size+1+1,1,none⟩=false :=
 ⟨(hb.cell oab).trans oaf,(hb.cell oac).trans oaf,(hb.cell oac).trans oaf,(hb.cell oac).trans oaf,(hb.frozen oac).trans oaf,(hb.frozen oac).trans oaf,(hb.frozen oac).trans oaf⟩
theorem dC(w:Wd)(D E o3:Obj):Bl w (((w.alloc D).alloc E).alloc o3):=((((yv _ _).alloc (yr _) _).alloc oac _).alloc oab _)
def fI(x:Nd)(t:Int):Nd:=⟨true,x.n+1,t,x.m,x.p,x.ks,x.h,x.c⟩
structure WF (S:List Nd):Prop where
 small:S.length<=24
 node:∀ i,i<S.length->iP S.length (nd S i)=0
 kids:lW S
 hosts:jI S S.length
 noring:∀ i,i<S.length->dF S i i=false
theorem IU(N:Int):∀ l:List Nd,gG N l=0↔∀ x ∈ l,iP N x=0
 | []=>by simp[gG]
 | x :: r=>by
  simp only[gG,List.mem_cons];by_cases h:iP N x=0
  ·rw[ye h,IU N r];exact⟨fun H y D=>D.elim (fun e=>by rw[e];exact h) (H y),fun H y D=>H y (Or.inr D)⟩
  ·rw[yd h];exact⟨fun H=>absurd H h,fun H=>absurd (H x (Or.inl rfl)) h⟩
theorem mU(S:List Nd):dG S=0↔WF S:=by
 unfold dG wQ wO;constructor
 ·intro h
  split at h
  ·omega
  ·rename_i I
   split at h
   ·rename_i h1;rw[IU] at h1
    split at h
    ·rename_i E
     split at h
     ·rename_i F
      split at h
      ·omega
      ·rename_i D;refine⟨oaa,fun i hi=>h1 _ (by rw[eQ hi];exact List.getElem_mem hi),of_decide_eq_true E,of_decide_eq_true F,fun i hi=>?_⟩;simp only[Bool.not_eq_true,List.any_eq_false,List.mem_range] at D;have:=D i hi;simpa using this
     ·omega
    ·omega
   ·exact absurd h (by assumption)
 ·rintro⟨h0,h1,E,F,D⟩
  rw[yd oaa,ye ((IU _ _).2 fun x J=>by
   obtain⟨i,hi,rfl⟩:=List.getElem_of_mem J;have:=h1 i hi
   rwa [eQ hi] at this),ye (yI E),ye (yI F),yd]
  simp only[Bool.not_eq_true,List.any_eq_false,List.mem_range];intro i hi;rw[D i hi]
theorem jY{N:Int}{x:Nd}(h:iP N x=0):iO x=true/\kV N x=true/\gV x=true:=by
 unfold iP at h
 split at h
 ·split at h
  ·split at h
   ·exact⟨by assumption,by assumption,by assumption⟩
   ·omega
  ·omega
 ·omega
theorem WF.kid(h:WF S)(hi:i<S.length){x:Int}(J:x ∈ (nd S i).ks) :
  ∃ k:Nat,x=k/\k<S.length/\(nd S k).u=true/\(nd S k).p=i/\bA (nd S k)=i:=by
 have h1:=(wU (wT (h.node i hi))).1 x J;obtain⟨M,E,F⟩:=h.kids.1 i hi x J;obtain⟨k,rfl⟩:∃ k:Nat,x=(k:Int):=⟨x.toNat,oaa⟩;have I:k<S.length:=oaa
 simp only[yk] at E F;refine⟨k,rfl,I,E,F,?_⟩;have D:=(jY (h.node k I)).2.2;unfold gV at D;rw[ye E] at D;unfold bA
 split at D
 ·cases D
 ·split at D
  ·rename_i hh;rw[ye hh];exact F
  ·have:=of_decide_eq_true D;omega
def Up(S:List Nd):Nat->Nat->Nat->Prop
 | 0,x,p=>x=p
 | j+1,x,p=>∃ y:Nat,y<S.length/\bA (nd S x)=y/\Up S j y p
theorem Up.det:∀ {j x p q:Nat},Up S j x p->Up S j x q->p=q
 | 0,_,_,_,h,k=>by cases h;cases k;rfl
 | j+1,_,_,_,⟨y,_,I,D⟩,⟨F,_,J,E⟩=>by
  have:y=F:=oaa
  subst this;exact Up.det D E
theorem Up.trans:∀ {i j x y z:Nat},Up S i x y->Up S j y z->Up S (i+j) x z
 | 0,j,_,_,_,h,k=>by cases h;simpa using k
 | i+1,j,_,_,_,⟨F,h1,D,E⟩,k=>by
  rw[show i+1+j=(i+j)+1 by omega];exact⟨F,h1,D,Up.trans E k⟩
theorem Up.split:∀ {i j x z:Nat},Up S (i+j) x z->∃ y,Up S i x y/\Up S j y z
 | 0,j,x,_,h=>⟨x,rfl,by simpa using h⟩
 | i+1,j,x,z,h=>by
  rw[show i+1+j=(i+j)+1 by omega] at h;obtain⟨J,h1,D,E⟩:=h;obtain⟨y,F,I⟩:=Up.split E;exact⟨y,⟨J,h1,D,F⟩,I⟩
theorem IV{S:List Nd}:∀ {j x D f:Nat} (st:Bool),Up S (j+1) x D->j+1<=f->eB S bA (tQ D) f (bA (nd S x)) st=true
 | j,x,D,0,_,_,I=>oaa
 | j,x,D,f+1,st,⟨y,h1,F,E⟩,I=>by
  rw[F];have J:dZ S.length (y:Int)=true:=yI ⟨oaa,oaa⟩;simp only[eB,J,if_true,tQ,yk];by_cases e:(y:Int)=(D:Int)
  ·simp[e]
  ·simp only[yH e,Bool.not_false,if_true]
   cases j with
   | zero=>exact absurd (by cases E;rfl) e
   | succ j=>exact IV _ E oaa
theorem WF.no_ring(h:WF S){x j:Nat}(I:x<S.length)(h1:1<=j)(D:j<=S.length):¬ Up S j x x:=fun F=>by
 obtain⟨j,rfl⟩:∃ i,j=i+1:=⟨j-1,oaa⟩;have:=h.noring x I;unfold dF at this;have E:dZ S.length (x:Int)=true:=yI ⟨oaa,oaa⟩;rw[E,ye rfl,yk,IV false F D] at this;cases this
theorem WF.up_one(hi:i<S.length)(D:bA (nd S k)=i):Up S 1 k i:=⟨i,hi,D,rfl⟩
theorem AQ{N:Nat}{l:List Nat}(h:l.Nodup)(hl:∀ y ∈ l,y<N):l.length<=N:=by
 have:=h.length_le_of_subset (l₂:=List.range N) (fun y D=>List.mem_range.2 (hl y D));simpa using this
theorem WF.deep(h:WF S):∀ (f x:Nat) (r:List Nat),x<S.length->(x :: r).Nodup->(∀ y ∈ r,y<S.length)->(∀ y ∈ r,∃ j,1<=j/\j<=r.length/\Up S j x y)->S.length<=f+r.length+1->Deep S f x:=by
 have step:∀ (x:Nat) (r:List Nat),x<S.length->(x :: r).Nodup->(∀ y ∈ r,y<S.length)->(∀ y ∈ r,∃ j,1<=j/\j<=r.length/\Up S j x y)->∀ k:Nat,k<S.length->bA (nd S k)=x ->
   (k :: x :: r).Nodup/\(∀ y ∈ x :: r,y<S.length)/\(∀ y ∈ x :: r,∃ j,1<=j/\j<=(x :: r).length/\Up S j k y):=fun x r F hn O T k J D=>by
  have I:∀ y ∈ x :: r,y<S.length:=fun y E=>by
   rcases List.mem_cons.1 E with rfl|E
   ·exact F
   ·exact O y E
  have hlen:=AQ hn I
  have U:∀ y ∈ x :: r,∃ j,1<=j/\j<=(x :: r).length/\Up S j k y:=fun y E=>by
   rcases List.mem_cons.1 E with rfl|E
   ·exact⟨1,oaa,oac,WF.up_one F D⟩
   ·obtain⟨j,j1,j2,j3⟩:=T y E;exact⟨1+j,oaa,oab,(WF.up_one F D).trans j3⟩
  refine⟨List.nodup_cons.2 ⟨fun hm=>?_,hn⟩,I,U⟩;obtain⟨j,j1,j2,j3⟩:=U k hm;exact h.no_ring J j1 oaa j3
 intro f
 induction f with
 | zero =>
  intro x r F hn O T hf;show (nd S x).ks=[]
  cases hks:(nd S x).ks with
  | nil=>rfl
  | cons k ks =>
   obtain⟨k', rfl,J,_,_,D⟩:=h.kid F (x:=k) (by rw[hks];simp);obtain⟨h1,Z,h3⟩:=step x r F hn O T k' J D
   have:=AQ h1 (fun y E=>by
    rcases List.mem_cons.1 E with rfl|E
    ·exact J
    ·exact Z y E)
   simp at this;omega
 | succ f ih =>
  intro x r F hn O T hf k J;obtain⟨k', rfl,M,_,_,D⟩:=h.kid F J;obtain⟨h1,Z,h3⟩:=step x r F hn O T k' M D;refine⟨⟨oaa,oaa⟩,?_⟩;rw[yk];exact ih k' (x :: r) M h1 Z h3 oab
theorem WF.deep_all(h:WF S){p:Nat}(E:p<S.length):Deep S S.length p :=
 h.deep S.length p [] E oac (fun y D=>by cases D) (fun y D=>by cases D) oaa
