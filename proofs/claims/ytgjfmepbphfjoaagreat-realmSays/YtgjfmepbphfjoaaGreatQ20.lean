/-
  x
-/
import Derived.Test.YtgjfmepbphfjoaaGreatQ19
namespace Go.Proofs.YtgjfmepbphfjoaaGreat
set_option maxRecDepth 100000
set_option maxHeartbeats 4000000
set_option linter.unusedVariables false
open Go.RowKit Go.ChangeShapes Go.WideShapes
def Dead(S:List Nd)(h:Int × Int):Prop:=∃ k:Nat,h.1=k/\k<S.length/\(h.2<(nd S k).n\/((nd S k).n=h.2/\(nd S k).u=false))
def zni(S:List Nd)(h:Int × Int)(m:Int):Prop:=(∃ k:Nat,h.1=k/\k<S.length/\(nd S k).u=true/\(nd S k).n=h.2/\(nd S k).m=m)\/Dead S h
theorem Dead.step{R Q:Rl}{x:Ac}{o:Int}(K:Kept R x Q o){h:Int × Int}(I:Dead R.s h):Dead Q.s h:=by
 obtain⟨k,e,w,hd⟩:=I;refine⟨k,e,by rw[K.len];exact w,?_⟩;obtain⟨q,hq⟩:=K.node;rcases hq k w with ⟨s1,s2,_,_⟩ |⟨_,⟨b1,b2,b3,_⟩ |⟨d1,d2,d3⟩ |⟨D,F,_⟩⟩
 ·rw[s1,s2];exact hd
 ·left;rw[b3];rcases hd with hd |⟨hd,_⟩ <;> omega
 ·rcases hd with hd |⟨hd,A⟩
  ·left;rw[d3];exact hd
  ·rw[d1] at A;cases A
 ·rw[D,F];exact hd
theorem zni.step{R Q:Rl}{x:Ac}{o:Int}(K:Kept R x Q o){h:Int × Int}{m:Int}(I:zni R.s h m)(M:¬ (hd R x.a=h/\(x.k=5\/x.k=11))):zni Q.s h m:=by
 rcases I with ⟨k,e,A,O,hn,T⟩|I
 ·by_cases w:x.k=5\/x.k=11
  ·obtain⟨k', U,D,V,F,_,hs,_⟩:=K.mark w
   have J:k≠k' := fun e2=>M ⟨by
    subst e2;refine Prod.ext ?_ ?_
    ·rw[U,e]
    ·rw[<- F,<- hn],w⟩
   left;refine⟨k,e,by rw[K.len];exact A,?_⟩;rw[hs,zay _ _ _ _ D,ya J];exact⟨O,hn,T⟩
  ·obtain⟨hl,q,hq⟩:=K.mild (fun h=>w (Or.inl h)) (fun h=>w (Or.inr h));rcases hq k A with ⟨s1,s2,_,s4⟩ |⟨_,⟨b1,b2,b3,_⟩ |⟨d1,d2,d3⟩⟩
   ·left;exact⟨k,e,by rw[K.len];exact A,by rw[s1];exact O,by rw[s2];exact hn,by rw[s4];exact T⟩
   ·rw[O] at b1;cases b1
   ·right;exact⟨k,e,by rw[K.len];exact A,Or.inr ⟨by rw[d3];exact hn,d2⟩⟩
 ·exact Or.inr (I.step K)
theorem zni.new{R Q:Rl}{x:Ac}{o:Int}(K:Kept R x Q o){h:Int × Int}(hh:hd R x.a=h)(I:x.k=5\/x.k=11):zni Q.s h (if x.k=11 then (cl R.i x.n.toNat).n else x.n):=by
 obtain⟨k', F,w,D,A,_,hs,_⟩:=K.mark I;left;refine⟨k', by rw[<- hh];exact F,by rw[K.len];exact w,?_⟩;rw[hs,zay _ _ _ _ w,yd rfl];exact⟨D,by rw[<- hh];exact A,rfl⟩
def znY(A B:List (Int × Int)):Nat->Nat
 | 0=>0
 | j+1=>znY A B j+if B.getD j (0,0)=A.getD j (0,0) then 0 else 1
theorem Kept.hands{R Q:Rl}{x:Ac}{o:Int}(K:Kept R x Q o):∀ j,znY R.hs Q.hs j<=1:=by
 obtain⟨q,hq⟩:=K.hand
 have key:∀ j,znY R.hs Q.hs j<=if q<j then 1 else 0:=by
  intro j
  induction j with
  | zero=>simp[znY]
  | succ j w =>
   unfold znY;by_cases e:j=q
   ·subst e;rw[ya (by omega)] at w;rw[show (if j<j+1 then (1:Nat) else 0)=1 from yd (by omega)]
    split <;> omega
   ·rw[yd (hq j e)]
    split at w
    ·rw[yd (by omega)];omega
    ·rw[ya (by omega)];omega
 intro j;have:=key j
 split at this <;> omega
theorem Kept.uses{R Q:Rl}{x:Ac}{o:Int}(K:Kept R x Q o){i:Nat}(w:i<R.s.length):(nd R.s i).n<=(nd Q.s i).n/\(nd Q.s i).n<=(nd R.s i).n+1/\((nd Q.s i).u=true->(nd R.s i).u=true->(nd Q.s i).t=(nd R.s i).t/\(nd Q.s i).n=(nd R.s i).n):=by
 obtain⟨q,hq⟩:=K.node;rcases hq i w with ⟨s1,s2,s3,_⟩ |⟨_,⟨b1,b2,b3,_⟩ |⟨d1,d2,d3⟩ |⟨F,A,D⟩⟩
 ·exact⟨by omega,by omega,fun _ _=>⟨s3,s2⟩⟩
 ·exact⟨by omega,by omega,fun _ h=>by rw[b1] at h;cases h⟩
 ·exact⟨by omega,by omega,fun h _=>by rw[d2] at h;cases h⟩
 ·exact⟨by omega,by omega,fun _ _=>⟨D,A⟩⟩
theorem zjQ{B:Nat}{w w' : World}(h:Below B w w')(n:Nat):Below B w (w'.drewN n):=⟨h.os,h.tape,h.output,h.size,h.block⟩
structure RA where
 a0:Option Addr
 a1:Option Addr
 a2:Option Addr
 a3:Option Addr
 c0:Nat
 c1:Nat
 c2:Nat
 c3:Nat
def zaS(w:World)(A:RA)(R:Rl):Prop:=zae w A.a0 R.s/\zam w A.a1 R.hs/\zaY w A.a2 R.i/\zaj w A.a3 R.t
abbrev rlV(A:RA)(R:Rl):Value:=.agg #[.slice A.a0 R.s.length A.c0,.slice A.a1 R.hs.length A.c1,.slice A.a2 R.i.length A.c2,.slice A.a3 R.t.length A.c3]
abbrev acV(x:Ac):Value:=.agg #[.int .i64 x.k,.int .i64 x.a,.int .i64 x.b,.int .i64 x.c,.int .i64 x.n]
abbrev bxR(A:RA)(R:Rl):Obj:=.cells #[.slice A.a0 R.s.length A.c0,.slice A.a1 R.hs.length A.c1,.slice A.a2 R.i.length A.c2,.slice A.a3 R.t.length A.c3] 31 (0,0)
def ziu(R:Rl):Prop:=R.s.length<=9223372036854775807/\Big R.s/\R.hs.length<=9223372036854775807/\R.i.length<=9223372036854775807/\zpp R.i/\R.t.length<=9223372036854775807
theorem zaS.below{w w' : World}{A:RA}{R:Rl}(h:zaS w A R)(D:Below w.heap.size w w'):zaS w' A R:=⟨h.1.below D,h.2.1.below D,h.2.2.1.below D,h.2.2.2.below D⟩
theorem zaO(w:World)(A:RA):zaS w A zaW:=⟨fun _ h=>absurd h (yr _),fun _ h=>absurd h (yr _),fun _ h=>absurd h (yr _),fun _ h=>absurd h (yr _)⟩
theorem zkP:ziu zaW:=⟨by decide,fun _ h=>absurd h (yr _),by decide,by decide,fun _ h=>absurd h (yr _),by decide⟩
theorem zdE{m:Nat}:∀ {G:List Cl},cellsE m G=0->∀ i,i<G.length->zdh m (cl G i)=0
 | [],_,i,w=>absurd w (yr _)
 | x :: r,h,i,w=>by
  unfold cellsE at h;by_cases h1:zdh m x=0
  ·rw[yd h1] at h
   match i,w with
   | 0,_=>exact h1
   | i+1,w=>exact zdE (G:=r) h i (by simpa using w)
  ·rw[ya h1] at h;exact absurd h h1
theorem zeC{G:List Cl}(h:zbQ G=0):G.length<=24/\zpp G:=by
 unfold zbQ at h;by_cases h1:24<G.length
 ·rw[yd h1] at h;omega
 ·rw[ya h1] at h;refine⟨by omega,fun i w=>?_⟩;have:=zdE h i w;unfold zdh at this
  split at this
  ·omega
  ·split at this
   ·omega
   ·omega
theorem zea{R:Rl}(h:zaB R=0):ziu R:=by
 obtain⟨h1,A,w,D⟩:=zax h;have:=zeC w;exact⟨by have:=h1.small;omega,h1.big,by omega,by omega,this.2,by omega⟩
theorem zkO(R:Rl)(x:Ac):ziu (doF R x).r:=by
 by_cases h:(doF R x).e=0
 ·exact zea (zrv h).2.2
 ·rw[(zsJ R x h).1];exact zkP
def zqk(p:Int):Int:=if 0<=p/\p<=24 then 0 else 2
def zje(p:Int):Rl:=if 0<=p/\p<=24 then ⟨List.replicate p.toNat zaL,List.replicate 16 (0,0),[],[]⟩ else zaW
def zps:Prop:=∀ (A:RA) (R:Rl) (x:Ac) (w:World),ziu R->zaS w A R ->
 Calls Tryz.prog 9 #[rlV A R,acV x] w fun e w' => ∃ B:RA,e=.returned (.tuple #[rlV B (doF R x).r,.int .i64 (doF R x).o,.int .i64 (doF R x).e])/\Below w.heap.size w w' /\ zaS w' B (doF R x).r
def zkI:Prop:=∀ (p:Int) (w:World),
 Calls Tryz.prog 11 #[.int .i64 p] w fun e w' => ∃ B:RA,e=.returned (.tuple #[rlV B (zje p),.int .i64 (zqk p)])/\Below w.heap.size w w' /\ zaS w' B (zje p)
def ziw:Prop:=∀ (A:RA) (R:Rl) (w:World),ziu R->zaS w A R ->
 Calls Tryz.prog 7 #[rlV A R] w fun e w' => e=.returned (.int .i64 (zaB R))/\Below w.heap.size w w'
def X1:Ac:=⟨1,2,0,0,4⟩
def X2:Ac:=⟨5,2,0,0,7⟩
def X3:Ac:=⟨6,2,0,0,0⟩
def X4:Ac:=⟨6,1,0,0,0⟩
def H0:Rl:=zje 3
def H1:Rl:=(doF H0 X1).r
def H2:Rl:=(doF H1 X2).r
theorem h_0:zaB H0=0:=by decide +kernel
theorem h_1:(doF H0 X1).e=0:=by decide +kernel
theorem h_2:(doF H1 X2).e=0:=by decide +kernel
theorem h_3:(doF H2 X3).e=0:=by decide +kernel
theorem h_4:(doF H2 X4).e=4:=by decide +kernel
theorem h_5:(doF H2 X3).o=7:=by decide +kernel
theorem h_6:H2.hs.length=16:=by decide +kernel
theorem h_7:zqk 3=0:=by decide +kernel
def zkH:Prop:=∀ w:World,Calls Tryz.prog 6 #[] w fun e w' => e=.returned (.bool true)/\Below w.heap.size w w'
theorem zgu:(Tryz.prog.info? 39).map (fun i=>(i.zero,i.size,i.bytes))=some (some (.agg #[.int .i64 0,.int .i64 0]),2,16):=by kernel_rfl
theorem zgw(w:World):(Instr.makeSlice 25 (.int .i64 16) (.int .i64 16)).run Tryz.prog w=.ok (.slice (some ⟨w.heap.size,0,none⟩) 16 16) (w.alloc (.cells (madeCells #[.int .i64 0,.int .i64 0] 32) 39)):=by
 obtain⟨i,I,A,D,F⟩:=info_parts zgu;have h:=run_make (P:=Tryz.prog) w 25 39 i _ Tryz.underlying25 I A .i64 .i64 16 16 (by omega) (by omega) (by rw[F];omega) (by omega);rw[D] at h;exact h
theorem zlq(n i:Nat)(h:i<n):(List.replicate n ((0:Int),(0:Int))).getD i (0,0)=(0,0):=by
 rw[zaf _ _ (by rw[List.length_replicate];exact h),List.getElem_replicate]
theorem ziX(n j:Nat)(h:j<n):(madeCells #[.int .i64 0,.int .i64 0] n)[j]?=some (.int .i64 0):=by
 have w:j % 2=0\/j % 2=1:=by omega
 rcases w with w|w <;> simp[madeCells,h,w]
theorem zeD(W:World):zam (W.alloc (.cells (madeCells #[.int .i64 0,.int .i64 0] 32) 39)) (some ⟨W.heap.size,0,none⟩) (List.replicate 16 (0,0)):=fun i w=>by
 rw[List.length_replicate] at w;refine⟨W.heap.size,0,rfl,?_,?_⟩
 ·rw[zlq 16 i w];exact zad W _ _ _ (ziX _ _ (by omega))
 ·rw[zlq 16 i w];exact zad W _ _ _ (ziX _ _ (by omega))
theorem zbR(x a b:Int)(w:World) :
  Calls Tryz.prog 36 #[.int .i64 x,.int .i64 a,.int .i64 b] w fun e w' => e=.returned (.bool (decide (a<=x/\x<=b)))/\w' = w:=by
 by_cases h1:a<=x
 ·by_cases A:x<=b
  ·rw[decide_eq_true ⟨h1,A⟩]
   go_enter Tryz.func36,Tryz.ntmps36
   go_wp2
   go_ret;exact⟨rfl,rfl⟩
  ·rw[decide_eq_false (fun h=>A h.2)];have D:decide (x<=b)=false:=decide_eq_false A
   go_enter Tryz.func36,Tryz.ntmps36
   go_wp2
   go_ret;exact⟨rfl,rfl⟩
 ·rw[decide_eq_false (fun h=>h1 h.1)];have D:decide (a<=x)=false:=decide_eq_false h1
  go_enter Tryz.func36,Tryz.ntmps36
  go_wp2
  go_ret;exact⟨rfl,rfl⟩
theorem zeo(x:Nd)(k:Value)(w:World) :
  Calls Tryz.prog 84 #[.agg #[.bool x.u,.int .i64 x.n,.int .i64 x.t,.int .i64 x.m,.int .i64 x.p,k,.int .i64 x.h,.bool x.c]] w fun e w' => e=.returned (.int .i64 (if x.h = -1 then x.p else x.h))/\Below w.heap.size w w' := by
 obtain⟨u,n,t,m,p,ks,h,c⟩:=x;dsimp only;by_cases e:h = -1
 ·subst e;simp only[if_true]
  go_enter Tryz.func84,Tryz.ntmps84
  go_wp2
  go_ret;exact⟨rfl,(yj _ _).alloc (yi _) _⟩
 ·simp only[ya e];have e2:(h == -1)=false:=beq_eq_false_iff_ne.2 e
  go_enter Tryz.func84,Tryz.ntmps84
  go_wp2
  go_ret;exact⟨rfl,(yj _ _).alloc (yi _) _⟩
theorem zdu(a:Option Addr)(c:Nat)(S:List Nd)(p u:Int)(w:World)(hN:S.length<=9223372036854775807)(F:zae w a S) :
  Calls Tryz.prog 41 #[.agg #[.slice a S.length c],.agg #[.int .i64 p,.int .i64 u]] w fun e w' => e=.returned (.int .i64 (zco S p u))/\Below w.heap.size w w' := by
 unfold zco;have d1:=zbR p 0 ((S.length:Int)-1);rw[show decide (0<=p/\p<=(S.length:Int)-1)=zeY S.length p from rfl] at d1
 cases hq:zeY S.length p with
 | false =>
  rw[hq] at d1;simp only[Bool.false_eq_true,if_false];generalize S.length=n at *;clear F
  go_enter Tryz.func41,Tryz.ntmps41
  go_wp2_with fail
  go_big_quiet ((go_at_call 36;exact Calls.quiet_of_same (d1 _)))
  go_wp2
  go_ret;exact⟨rfl,Below.drewNs (((yj _ _).alloc (yi _) _).alloc (by simp) _) _⟩
 | true =>
  rw[hq] at d1;simp only[if_true];have J:0<=p/\p<=(S.length:Int)-1:=of_decide_eq_true hq;clear hq;obtain⟨k,rfl⟩:∃ k:Nat,p=(k:Int):=⟨p.toNat,by omega⟩;have V:k<S.length:=by omega
  have Z:(k:Int)<(S.length:Int):=by omega
  simp only[yg];obtain⟨b,o,rfl,c0,c1,c2,c3,c4,⟨ka,kc,c5,_⟩,c6,c7⟩:=F k V;have U:b<w.heap.size:=ye w ⟨b,o+k*8,none⟩ c0;clear F J;generalize nd S k=x at *;unfold zoe;obtain⟨xu,D,xt,xm,xp,M,xh,xc⟩:=x;dsimp only at *;generalize M.length=kl at *;generalize S.length=n at *;have d2:=zbR u 1 D;generalize A:decide (1<=u/\u<=D)=b1 at *
  cases b1 with
  | false =>
   clear A;simp only[Bool.false_eq_true,if_false]
   go_enter Tryz.func41,Tryz.ntmps41
   go_wp2_with fail
   go_big_quiet ((first|(go_at_call_of 36 (Value.int .i64 0);exact Calls.quiet_of_same (d1 _))|(go_at_call_of 36 (Value.int .i64 1);exact Calls.quiet_of_same (d2 _))))
   go_wp2
   go_ret;exact⟨rfl,Below.drewNs (((yj _ _).alloc (yi _) _).alloc (by simp) _) _⟩
  | true =>
   have T:1<=u/\u<=D:=of_decide_eq_true A;clear A;simp only[if_true]
   cases xu with
   | false =>
    simp only[Bool.false_eq_true,if_false]
    go_enter Tryz.func41,Tryz.ntmps41
    go_wp2_with fail
    go_big_quiet ((first|(go_at_call_of 36 (Value.int .i64 0);exact Calls.quiet_of_same (d1 _))|(go_at_call_of 36 (Value.int .i64 1);exact Calls.quiet_of_same (d2 _))))
    go_wp2
    go_big_quiet (fail)
    go_wp2
    go_ret;exact⟨rfl,Below.drewNs (Below.drewNs (((yj _ _).alloc (yi _) _).alloc (by simp) _) _) _⟩
   | true =>
    simp only[if_true];by_cases O:D=u
    ·subst O;simp only[if_true];have I:decide (D<D)=false:=decide_eq_false (by omega)
     go_enter Tryz.func41,Tryz.ntmps41
     go_wp2_with fail
     go_big_quiet ((first|(go_at_call_of 36 (Value.int .i64 0);exact Calls.quiet_of_same (d1 _))|(go_at_call_of 36 (Value.int .i64 1);exact Calls.quiet_of_same (d2 _))))
     go_wp2
     go_big_quiet (fail)
     go_wp2
     go_ret;exact⟨rfl,Below.drewNs (Below.drewNs (((yj _ _).alloc (yi _) _).alloc (by simp) _) _) _⟩
    ·simp only[ya O];have I:decide (u<D)=true:=decide_eq_true (by omega)
     go_enter Tryz.func41,Tryz.ntmps41
     go_wp2_with fail
     go_big_quiet ((first|(go_at_call_of 36 (Value.int .i64 0);exact Calls.quiet_of_same (d1 _))|(go_at_call_of 36 (Value.int .i64 1);exact Calls.quiet_of_same (d2 _))))
     go_wp2
     go_big_quiet (fail)
     go_wp2
     go_ret;exact⟨rfl,Below.drewNs (Below.drewNs (((yj _ _).alloc (yi _) _).alloc (by simp) _) _) _⟩
def zeu(a:Option Addr)(c:Nat)(S:List Nd):Prop:=∀ W,zae W a S->Calls Tryz.prog 28 #[.agg #[.slice a S.length c]] W fun e w' => e=.returned (.int .i64 (zaD S))/\Below W.heap.size W w'
def zij(S:List Nd)(e:Int)(l:List (Int × Int)):Int:=if e=0 then zdR S l else e
theorem zbd(a:Option Addr)(c:Nat)(S:List Nd)(ha:Option Addr)(hc:Nat)(hs:List (Int × Int))(w:World)(hN:S.length<=9223372036854775807)(hC:zeu a c S)(hS:zae w a S)(hL:hs.length<=9223372036854775807)(hH:zam w ha hs) :
  Calls Tryz.prog 83 #[.agg #[.slice a S.length c],.slice ha hs.length hc] w fun e w' => e=.returned (.int .i64 (zar S hs))/\Below w.heap.size w w' := by
 have dc:Hid _:=hC;have dh:=fun(p u:Int) (W:World) (hW:zae W a S)=>zdu a c S p u W hN hW;have DH:Hid _:=dh;have HS:Hid (zae w a S):=hS;have HH:Hid (zam w ha hs):=hH;have R0:Hid (zar S hs=zij S (zaD S) (hs.drop 0)):=(rfl:zar S hs=zij S (zaD S) (hs.drop 0));clear hS hH dh hC;unfold zeu at dc;generalize zar S hs=F at *;generalize zaD S=E0 at *;generalize hn:S.length=n at *;generalize hm:hs.length=m at *;have HM:Hid (hs.length=m):=hm;clear hm hn
 go_enter Tryz.func83,Tryz.ntmps83
 go_wp2_with (go_at_call 28;refine(dc.out _ (HS.out.below ((yj _ _).alloc (yi _) _))).mono ?_;rintro e w1 ⟨rfl,O⟩)
 have lb:w1.cell? ⟨w.heap.size,0,none⟩=some (.slice a n c):=zgJ (by simpa using O);have V:Below w.heap.size w w1:=((yj _ _).alloc (yi _) _).trans (O.mono (by simp));clear O dc
 go_loopg [5,12] m (fun g s5 s12 wr=>∃ (k:Nat) (J:Int),k<=m/\m-k<=g/\s5=.int .i64 J/\s12=.int .i64 k/\Below w.heap.size w wr/\wr.cell? ⟨w.heap.size,0,none⟩=some (.slice a n c)/\Hid (F=zij S J (hs.drop k)))
 case atStart=>exact⟨0,E0,by omega,by omega,rfl,rfl,V,lb,R0⟩
 case round =>
  obtain⟨k,J,hk,hg,rfl,rfl,M,T,A⟩:=hrel;have Z:=ye _ _ T;clear lb V R0;by_cases a4:k<m
  ·obtain⟨b,o,rfl,c0,c1⟩:=(HH.out.below M) k (by rw[HM.out];exact a4);have a6:=ye _ _ c0;have D:=A.out;rw[zfg (d:=(0,0)) (by rw[HM.out];exact a4)] at D;simp only[zij,zdR] at D;generalize (hs.getD k (0,0)).1=p at *;generalize (hs.getD k (0,0)).2=u at *;have d1:=fun W hW=>DH.out p u W hW;have HB:Hid (∀ o1,zae (wr.alloc o1) a S):=fun o1=>(HS.out.below M).below ((yj _ _).alloc (yi _) _);generalize zco S p u=hv at *;by_cases hz:J=0
   ·subst hz;rw[yd rfl] at D;have U:Hid (F=zij S hv (hs.drop (k+1))):=D;clear D
    go_wp2_with (go_at_call 41;refine(d1 _ (HB.out _)).mono ?_;rintro e w2 ⟨rfl,a5⟩)
    go_roundg (m-(k+1))
    case measure=>omega
    case rel =>
     have I:Below wr.heap.size wr w2:=((yj _ _).alloc (yi _) _).trans (a5.mono (by simp));exact⟨k+1,hv,by omega,by omega,rfl,by go_num,M.trans (I.mono M.size),(I.cell Z).trans T,U⟩
   ·rw[ya hz] at D;have a7:(J == 0)=false:=by simp[hz]
    have U:Hid (F=zij S J (hs.drop (k+1))):=(by rw[D,zij,ya hz]:F=zij S J (hs.drop (k+1)));clear D
    go_wp2_with fail
    go_roundg (m-(k+1))
    case measure=>omega
    case rel =>
     have I:Below wr.heap.size wr (wr.alloc (.cells #[.int .i64 p,.int .i64 u] 39)):=((yj wr.heap.size wr).alloc (yi _) _);exact⟨k+1,J,by omega,by omega,rfl,by go_num,M.trans (I.mono M.size),(I.cell Z).trans T,U⟩
  ·have:k=m:=by omega
   subst this;have D:=A.out;rw[<- HM.out,List.drop_length] at D
   have U:F=J:=by
    rw[D,zij];split
    ·next h=>rw[h];rfl
    ·rfl
   subst U;clear D A
   go_wp2
   go_ret;exact⟨rfl,M⟩
theorem own_below{w w' : World}{B:Nat}{v:Value}{l:List Int}(h:w.ownsRow B 3 1 v l.length (l.map (Value.int .i64)))(A:Below w.heap.size w w'):w'.ownsRow B 3 1 v l.length (l.map (Value.int .i64)) :=
 h.kept (row:=none) ⟨A.os,A.tape,A.output,A.size,fun k D _=>A.block k D⟩ (by
  cases hv:v.ownBlock with
  | none=>exact Or.inl rfl
  | some k=>exact Or.inr (fun e=>by cases e))
theorem zgC(a:Option Addr)(c:Nat)(S:List Nd)(k:Int)(w:World)(hN:S.length<=24)(hS:zae w a S) :
  Calls Tryz.prog 76 #[.agg #[.slice a S.length c],.int .i64 k] w fun e w' => ∃ v,e=.returned v/\Below w.heap.size w w' /\ w'.ownsRow w.heap.size 3 1 v (zaT S (S.length+1) k).length ((zaT S (S.length+1) k).map (Value.int .i64)):=by
 obtain⟨i0,b9,c9,d6,d7⟩:=info_parts info3;have HS:Hid (zae w a S):=hS;have LF:Hid (∀ f (y:Nat),y<S.length->zaT S (f+1) (y:Int)=(y:Int) :: zaT S f (zah (nd S y))):=fun f y hy=>by rw[zaT,yd (zcZ.2 hy),yg]
 have LN:Hid (∀ f (x:Int),¬ (0<=x/\x<(S.length:Int))->zaT S f x=[]):=fun f x hx=>by
  cases f with
  | zero=>rfl
  | succ f =>
   rw[zaT,ya];intro h;have U:0<=x/\x<=(S.length:Int)-1:=of_decide_eq_true h;exact hx (by omega)
 obtain⟨L0,a5⟩:∃ l,zaT S (S.length+1) k=l:=⟨_,rfl⟩;rw[a5];have E0:Hid (L0=[] ++ zaT S (S.length+1-0) k):=(by rw[<- a5];rfl:L0=[] ++ zaT S (S.length+1-0) k);clear hS a5;obtain⟨n,hn⟩:∃ n,S.length=n:=⟨_,rfl⟩;have HN:Hid (S.length=n):=hn;rw[hn] at hN E0 LF LN |-;clear hn
 go_enter Tryz.func76,Tryz.ntmps76
 go_wp2_with fail
 go_loopg [1,5] (n+1) (fun g s1 s5 wr=>∃ (j:Nat) (x:Int) (l:List Int),j<=n+1/\(n+1)-j<=g/\s1=.int .i64 x/\l.length=j/\Hid (Below w.heap.size w wr)/\wr.cell? ⟨w.heap.size,0,none⟩=some (.slice a n c)/\w.heap.size<wr.heap.size/\Hid (wr.ownsRow (w.heap.size+1) 3 1 s5 l.length (l.map (Value.int .i64)))/\Hid (L0=l++zaT S (n+1-j) x))
 case atStart=>exact⟨0,k,[],by omega,by omega,rfl,rfl,(yj _ _).alloc (yi _) _,by go_simp,by simp,World.ownsRow_nil _ _ _ _,E0⟩
 case round =>
  obtain⟨j,x,l,hj,hg,rfl,hl,HB,cs,e7,HO,HE⟩:=hrel;obtain⟨pa,pc,hv,_⟩:=zat HO.out;subst hv;clear E0;obtain⟨A,J⟩:∃ y,l.length=y:=⟨_,rfl⟩;have a7:Hid (l.length=A):=J;rw[J];have c6:A=j:=by omega
  subst c6
  have D:Hid (zaT S (n+1-A) x=[]->wr.ownsRow w.heap.size 3 1 (.slice pa A pc) L0.length (L0.map (Value.int .i64))):=fun h=>by
   have e:=HE.out;rw[h,List.append_nil] at e;rw[e];have U:=zcl HO.out (Nat.le_succ _);rw[J] at U;rw[J];exact U
  have M:Hid (wr.ownsRow (w.heap.size+1) 3 1 (.slice pa A pc) A (l.map (Value.int .i64))):=by have U:=HO.out;rw[J] at U;exact U
  clear hl J HO;by_cases hx:0<=x/\x<(n:Int)
  ·obtain⟨y,rfl⟩:∃ y:Nat,x=y:=⟨x.toNat,by omega⟩;have hy:y<n:=by omega
   obtain⟨c7,c8⟩:=hx;have b1:decide ((0:Int)<=(y:Int))=true:=decide_eq_true c7;have b2:decide ((y:Int)<(n:Int))=true:=decide_eq_true c8;by_cases d9:A<=n
   ·have b3:decide ((A:Int)<=(n:Int))=true:=decide_eq_true (by omega);have V:(A:Int)<=(n:Int):=by omega
    have EQ:Hid (L0=(l++[(y:Int)])++zaT S (n+1-(A+1)) (zah (nd S y))):=by
     have e:=HE.out;rw[show n+1-A=(n+1-(A+1))+1 by omega,LF.out _ y hy] at e;show L0=_;rw[e,List.append_assoc];rfl
    obtain⟨r,hr⟩:∃ r,zah (nd S y)=r:=⟨_,rfl⟩;have d2:=fun(v:Value) W=>zeo (nd S y) v W;rw[show (if (nd S y).h = -1 then (nd S y).p else (nd S y).h)=r from hr] at d2;have b7:Hid _:=d2;rw[hr] at EQ;clear HE D d2 hr;have OB:Hid (∀ k,(Value.slice pa A pc).ownBlock=some k->w.heap.size+1<=k):=fun k hk=>(M.out.lt k hk).1
    go_wp2_with (at_builtin;refine wpList_append_own _ rfl _ _ 29 rfl (w.heap.size+1) 3 i0 (.int .i64 0) 1 8 Tryz.underlying29 b9 c9 d6 d7 rfl (by decide) _ _ _ rfl (M.out.alloc _) ⟨wr.heap.size,0,none⟩ 1 1 [.int .i64 (y:Int)] rfl rfl ?c1 ?c2 ?c3 ?c4 ?c5 ?_)
    case c2=>first|rfl|(intro u hu;simp at hu;subst hu;rfl)|simp
    case c3=>unfold maxLen;omega
    case c4=>omega
    case c5=>first|omega|(simp;omega)
    case c1=>first|(go_simp;done)|(intro j u hj;match j,hj with|0,hj=>(cases hj;go_simp)|(j+1),hj=>simp at hj)
    intro v' w2 I T _
    obtain⟨g', F,rfl⟩:∃ g' F,v' = .slice (some ⟨g', 0,none⟩) (A+1) F:=by
     rcases I.2 with ⟨_,h⟩ |⟨g', F,d8,h,_⟩
     ·omega
     ·exact⟨g', F,h⟩
    have a6:Below (w.heap.size+1) wr w2:=((yj _ wr).alloc (by omega) _).grown T (by simp;omega) (fun k hk=>OB.out k hk);have Z:Hid (Below w.heap.size w w2):=HB.out.trans (a6.mono (by omega));have a4:=(a6.cell (p:=⟨w.heap.size,0,none⟩) (by show w.heap.size < _;omega)).trans cs;have a8:=ye _ _ a4;obtain⟨nb,no,ea,k0,k1,k2,k3,k4,⟨ka,kc,k5,_⟩,k6,k7⟩:=(HS.out.below Z.out) y (by rw[HN.out];exact hy);subst ea;have e0:=ye _ _ k0
    have b5:Hid (w2.ownsRow (w.heap.size+1) 3 1 (.slice (some ⟨g', 0,none⟩) (A+1) F) (l++[(y:Int)]).length ((l++[(y:Int)]).map (Value.int .i64))):=by
     have U:=I;rw[show (l++[(y:Int)]).length=A+1 by simp[a7.out],List.map_append];exact U
    have b4:Hid ((l++[(y:Int)]).length=A+1):=(by simp[a7.out]:(l++[(y:Int)]).length=A+1);clear I T a6 cs M
    go_wp2_with fail
    refine yf (b7.out _ _) ?_;rintro e w3 ⟨rfl,O⟩;have a9:Hid (Below w.heap.size w w3):=Z.out.trans (O.mono Z.out.size);have b8:=(O.cell (p:=⟨w.heap.size,0,none⟩) a8).trans a4;have b6:Hid _:=own_below b5.out O;have e6:=O.size;clear O k0 k1 k2 k3 k4 k5 k6 k7 a4
    go_wp2
    go_roundg ((n+1)-(A+1))
    case measure=>omega
    case rel=>exact⟨A+1,_,l++[(y:Int)],by omega,by omega,rfl,b4.out,a9,b8,by omega,b6,EQ⟩
   ·have V:¬ (A:Int)<=(n:Int):=by omega
    have b3:decide ((A:Int)<=(n:Int))=false:=decide_eq_false V;have hz:n+1-A=0:=by omega
    have OW:Hid _:=D.out (by rw[hz];rfl);clear D HE M
    go_wp2
    go_ret;exact⟨_,rfl,HB.out,OW.out⟩
  ·have OW:Hid _:=D.out (LN.out _ _ hx);clear D HE M;by_cases h0:0<=x
   ·have h1:¬ x<(n:Int):=fun h=>hx ⟨h0,h⟩;have b1:decide ((0:Int)<=x)=true:=decide_eq_true h0;have b2:decide (x<(n:Int))=false:=decide_eq_false h1;clear hx
    go_wp2
    go_ret;exact⟨_,rfl,HB.out,OW.out⟩
   ·have b1:decide ((0:Int)<=x)=false:=decide_eq_false h0;clear hx
    go_wp2
    go_ret;exact⟨_,rfl,HB.out,OW.out⟩
def zlF(W:World)(a:Option Addr)(S:List Nd)(A:Nat)(i:Nat)(st:List Int)(w:World):Prop :=
 Below W.heap.size W w/\zae W a S/\W.heap.size<=A/\st.length=i+1/\∃ v,w.heap[A]?=some (.cells #[v] 29 (0,0))/\w.ownsRow W.heap.size 3 1 v st.length (st.map (Value.int .i64))
theorem zlF.below{W I w2:World}{a:Option Addr}{S:List Nd}{J i:Nat}{st:List Int}(h:zlF W a S J i st I)(w:Below I.heap.size I w2):zlF W a S J i st w2:=by
 obtain⟨M,T,D,hl,v,O,A⟩:=h;have F:=(Array.getElem?_eq_some_iff.1 O).1
 exact⟨M.trans (w.mono M.size),T,D,hl,v,(w.block _ F).trans O,A.kept (row:=none) ⟨w.os,w.tape,w.output,w.size,fun k U _=>w.block k U⟩ (by
  cases hv:v.ownBlock with
  | none=>exact Or.inl rfl
  | some k=>exact Or.inr (fun e=>by cases e))⟩
theorem zlF.step{W J w2:World}{a:Option Addr}{S:List Nd}{w i:Nat}{st:List Int}(x:Int)(h:zlF W a S w i st J){v U:Value}(hc:J.heap[w]?=some (.cells #[v] 29 (0,0)))(o1:Obj)
  (M:J.ownsRow W.heap.size 3 1 v st.length (st.map (Value.int .i64)))
  (I:w2.ownsRow W.heap.size 3 1 U (st.length+1) (st.map (Value.int .i64)++[.int .i64 x])) (hg:(J.alloc o1).grownBy w2 v.ownBlock) :
  w2.heap[w]?=some (.cells #[v] 29 (0,0))/\zlF W a S w (i+1) (st++[x]) (w2.setCell ⟨w,0,none⟩ U)/\Off (fun k=>W.heap.size<=k) J (w2.setCell ⟨w,0,none⟩ U) /\
   (∀ k:Nat,∀ x t,J.heap[k]?=some (.cells #[x] t (0,0))->t≠29->t≠3->(w2.setCell ⟨w,0,none⟩ U).heap[k]?=J.heap[k]?):=by
 obtain⟨Z,hS,a7,hl,_,_,_⟩:=h;have a8:=(Array.getElem?_eq_some_iff.1 hc).1;have O:∀ k,v.ownBlock=some k->W.heap.size<=k:=fun k A=>(M.lt k A).1
 have a5:∀ k,v.ownBlock=some k->∀ x t,J.heap[k]?=some (.cells #[x] t (0,0))->t=3:=fun k A x t hx=>by
  rcases M.2 with ⟨V,_⟩ |⟨g,cap,a6,V,_,F,_⟩
  ·rw[V] at A;cases A
  ·rw[V] at A;have:g=k:=by simpa [Value.ownBlock] using A
   rw[<- this,F] at hx;cases hx;rfl
 have D:∀ k,k<J.heap.size->v.ownBlock≠some k->w2.heap[k]?=J.heap[k]?:=fun k A hn =>
  (hg.block k (by simp;omega) (fun e=>hn e.symm)).trans (Below.heap_alloc _ _ _ (by omega))
 have a4:v.ownBlock≠some w:=fun e=>by have:=a5 w e _ _ hc;revert this;decide
 have T:w2.heap[w]?=some (.cells #[v] 29 (0,0)):=(D w a8 a4).trans hc;have b4:=hg.size;have b5:=Z.size;simp only[yk] at b4;refine⟨T,⟨⟨?_,?_,?_,?_,fun k A=>?_⟩,hS,a7,by simp[hl],U,znv T,?_⟩,⟨?_,?_,?_,?_,fun k A hx=>?_⟩,fun k x t A h1 h2=>?_⟩
 ·exact hg.os.trans Z.os
 ·exact hg.tape.trans Z.tape
 ·exact hg.output.trans Z.output
 ·simp;omega
 ·rw[yo _ _ _ _ (by show k≠w;omega),D k (by omega) (fun e=>by have:=O k e;omega)];exact Z.block k A
 ·have h3:=I.kept (grownBy_setCell w2 ⟨w,0,none⟩ U) (by
   cases hb:U.ownBlock with
   | none=>exact Or.inl rfl
   | some k =>
    right;intro e;rcases I.2 with ⟨V,h0⟩ |⟨g,cap,a6,V,_,F,_⟩
    ·omega
    ·rw[V] at hb;have e1:g=k:=by simpa [Value.ownBlock] using hb
     have e2:k=w:=by simpa using e
     rw[e1,e2,T] at F
     cases F)
  simpa using h3
 ·exact hg.os
 ·exact hg.tape
 ·exact hg.output
 ·simp;omega
 ·rw[yo _ _ _ _ (by show k≠w;exact fun e=>hx (by show W.heap.size<=k;omega)),D k A (fun e=>hx (O k e))]
 ·have a9:=(Array.getElem?_eq_some_iff.1 A).1;rw[yo _ _ _ _ (by show k≠w;exact fun e=>by rw[e,hc] at A;cases A;exact h1 rfl),D k a9 (fun e=>h2 (a5 k e _ _ A))]
end Go.Proofs.YtgjfmepbphfjoaaGreat
