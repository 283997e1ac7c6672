/-
  x
-/
import Derived.Test.YtgjfmepbphfjoaaGreatQ41
namespace Go.Proofs.YtgjfmepbphfjoaaGreat
set_option maxRecDepth 100000
set_option maxHeartbeats 8000000
set_option linter.unusedVariables false
open Go.RowKit
theorem zlS(x:Nd):zcy x=if x.u then (if (x.n == 0) then false else if (x.h == -1) then !x.c else (x.p == -1)) else ((x.t == 0) && (x.m == 0) && (x.p == -1) && (x.h == -1) && ((x.ks.length:Int) == 0) && !x.c):=by
 obtain⟨u,n,t,m,p,ks,h,c⟩:=x;unfold zcy;dsimp only
 have hl:(((ks.length:Int) == 0)=decide (ks=[])):=by
  cases ks with
  | nil=>rfl
  | cons y r=>simp;omega
 rw[hl];cases u
 ·simp only[Bool.false_eq_true,if_false];rw[Bool.eq_iff_iff];simp[and_assoc];intro _ _ _;constructor
  ·rintro⟨a,b,c⟩;exact⟨b,a,c⟩
  ·rintro⟨a,b,c⟩;exact⟨b,a,c⟩
 ·simp only[if_true];by_cases e1:n=0
  ·simp[e1]
  ·by_cases e2:h = -1
   ·simp[e1,e2]
   ·simp[e1,e2];by_cases e3:p = -1 <;> simp[e3]
theorem zfG{N:Int}{x:Nd}(h:zbV x=false):zba N x=2:=by
 unfold zba;rw[h];rfl
theorem zmp{N:Int}{x:Nd}(h:zbV x=true)(w:zbv N x=false):zba N x=4:=by
 unfold zba;rw[h,w];rfl
theorem zov{N:Int}{x:Nd}(h:zbV x=true)(w:zbv N x=true)(A:zcy x=false):zba N x=3:=by
 unfold zba;rw[h,w,A];rfl
theorem zgz{N:Int}{x:Nd}{y:Int}(hy:y ∈ x.ks)(h:zdT N y=false):zbv N x=false:=by
 cases hq:zbv N x with
 | false=>rfl
 | true =>
  have:=(zci hq).2.2 y hy;rw[h] at this;cases this
theorem zic{N:Int}{x:Nd}(h:zdT N x.p=false):zbv N x=false:=by
 cases hq:zbv N x with
 | false=>rfl
 | true=>have:=(zci hq).1;rw[h] at this;cases this
theorem zib{N:Int}{x:Nd}(h:zdT N x.h=false):zbv N x=false:=by
 cases hq:zbv N x with
 | false=>rfl
 | true=>have:=(zci hq).2.1;rw[h] at this;cases this
theorem zhB{S:List Nd}{i k:Nat}(w:k<S.length)(h:¬ zfM S i k):¬ OkB S i:=fun A=>h (A.1 k w)
theorem zgI{S:List Nd}{i:Nat}:∀ {k:Nat},k<=S.length->(∀ k', k' < k->zfM S i k')->(∀ k' : Nat,k' < k->(nd S i).p≠k')->zdA S k i=0
 | 0,_,_,_=>zfc S i
 | k+1,h1,A,D=>by
  rw[zcO S k i (by omega),zgI (by omega) (fun k' w=>A k' (by omega)) (fun k' w=>D k' (by omega)),yv];exact List.count_eq_zero.2 fun F=>D k (by omega) ((((A k (by omega)).1 _ F).2 rfl).2)
theorem ziO(S:List Nd)(i:Nat):∀ k,zbp S k i<=k
 | 0=>yi _
 | k+1=>by
  have:=ziO S i k;simp only[zbp]
  split <;> omega
theorem zpk{S:List Nd}{i k:Nat}{ks:List Int}{u:Bool}{p h:Int}(e1:(nd S k).ks=ks)(e2:(nd S i).u=u)(e3:(nd S i).p=p)(e4:(nd S k).h=h)(h1:∀ j,j<ks.length->ks.getD j 0≠-1/\(ks.getD j 0=(i:Int)->u=true/\p=k))(A:h=(i:Int)->u=true):zfM S i k:=by
 subst e1 e2 e3 e4;refine⟨fun c D=>?_,A⟩;obtain⟨j,w,rfl⟩:=List.getElem_of_mem D;have:=h1 j w
 rwa [zaf _ _ w] at this
theorem zpl{S:List Nd}{i k j:Nat}{ks:List Int}{u:Bool}{p:Int}(e1:(nd S k).ks=ks)(e2:(nd S i).u=u)(e3:(nd S i).p=p)(w:j<ks.length)(h:zfM S i k):ks.getD j 0≠-1/\(ks.getD j 0=(i:Int)->u=true/\p=k):=by
 subst e1 e2 e3;exact h.1 _ (by rw[zaf _ _ w];exact List.getElem_mem w)
theorem zkX{N:Int}:∀ {l:List Nd} {k:Nat},k<l.length->(∀ i,i<k->zba N (l.getD i zdd)=0)->zba N (l.getD k zdd)≠0->zbT N l=zba N (l.getD k zdd)
 | [],_,h,_,_=>by simp at h
 | x :: r,0,_,_,w=>by
  simp only[List.getD_cons_zero] at w |-;simp only[zbT];rw[ya w]
 | x :: r,k+1,h,A,w=>by
  simp only[List.getD_cons_succ] at w |-;have h0:=A 0 (by omega);simp only[List.getD_cons_zero] at h0;simp only[zbT];rw[yd h0];exact zkX (by simpa using h) (fun i D=>by have:=A (i+1) (by omega);simpa using this) w
theorem zjS{S:List Nd}(I:S.length<=24){k:Nat}(F:k<S.length)(D:∀ i,i<k->zba S.length (nd S i)=0){E:Int}(A:zba S.length (nd S k)=E)(w:E≠0):zaD S=E:=by
 have h:=zkX (N:=(S.length:Int)) F D (by rw[show S.getD k zdd=nd S k from rfl,A];exact w);rw[show S.getD k zdd=nd S k from rfl,A] at h;unfold zaD;rw[ya (by omega),h,ya w]
theorem zlJ{S:List Nd}(A:S.length<=24)(hn:∀ i,i<S.length->zba S.length (nd S i)=0):zaD S=zeQ S:=by
 unfold zaD
 rw[ya (by omega),yd ((zcP _ _).2 fun x hx=>by
  obtain⟨j,w,rfl⟩:=List.getElem_of_mem hx;have:=hn j w
  rwa [zaJ w] at this)]
theorem zkr(a:Option Addr)(c:Nat)(S:List Nd)(w:World)(D:24<S.length)(I:S.length<=9223372036854775807) :
  Calls Tryz.prog 28 #[.agg #[.slice a S.length c]] w fun e w' => e=.returned (.int .i64 (zaD S))/\Below w.heap.size w w' := by
 have A:zaD S=1:=by
  unfold zaD;rw[yd D]
 rw[A];have F:(24:Int)<(S.length:Int):=by omega
 generalize S.length=n at *
 go_enter Tryz.func28,Tryz.ntmps28
 go_wp2
 go_ret;exact⟨rfl,(yj _ _).alloc (yi _) _⟩
theorem zmB(a:Option Addr)(c:Nat)(S:List Nd)(w:World)(hM:S.length<=24)(hB:Big S)(hS:zae w a S) :
  Calls Tryz.prog 28 #[.agg #[.slice a S.length c]] w fun e w' => e=.returned (.int .i64 (zaD S))/\Below w.heap.size w w' := by
 have HS:Hid (zae w a S):=hS;have l4:Hid (Big S):=hB;have CF:Hid (∀ k,k<S.length->(∀ i,i<k->zba S.length (nd S i)=0)->∀ E,zba S.length (nd S k)=E->E≠0->zaD S=E):=fun k h1 h2 E h3 h4=>zjS hM h1 h2 h3 h4;have CT:Hid ((∀ i,i<S.length->zba S.length (nd S i)=0)->zaD S=zeQ S):=fun h=>zlJ hM h;have OT:Hid ((∀ i,i<S.length->zba S.length (nd S i)=0)->(∀ i,i<S.length->OkB S i)->zeQ S=0):=fun h1 h2=>zqn h1 h2;have BT:Hid ((∀ i,i<S.length->zba S.length (nd S i)=0)->∀ i,i<S.length->¬ OkB S i->zeQ S=6):=fun h1 i hi h2=>zpx hM h1 hi h2;have r8:¬ (24:Int)<(S.length:Int):=by omega
 obtain⟨R,hR⟩:∃ R,zaD S=R:=⟨_,rfl⟩;rw[hR] at CF CT |-;clear hS hR hB;obtain⟨n,hn⟩:∃ n,S.length=n:=⟨_,rfl⟩;have HN:Hid (S.length=n):=hn;rw[hn] at hM r8 CF CT OT BT |-;clear hn
 go_enter Tryz.func28,Tryz.ntmps28
 go_wp2_with fail
 have c0:(w.alloc (.cells #[.slice a n c] 24)).cell? ⟨w.heap.size,0,none⟩=some (.slice a n c):=by go_simp
 go_loopg [23] n (fun g s23 wr=>∃ k:Nat,k<=n/\n-k<=g/\s23=.int .i64 k/\Hid (Below w.heap.size w wr)/\wr.cell? ⟨w.heap.size,0,none⟩=some (.slice a n c)/\Hid (∀ i,i<k->zba n (nd S i)=0))
 case atStart=>exact⟨0,by omega,by omega,rfl,(yj _ _).alloc (yi _) _,c0,fun i hi=>absurd hi (yr _)⟩
 case round =>
  obtain⟨k,hk,hg,rfl,HB,cs,HA⟩:=hrel;clear c0;have l3:=ye _ _ cs;by_cases m9:k<n
  ·have v3:(k:Int)<(n:Int):=by omega
   obtain⟨nb,no,ea,k0,k1,k2,k3,k4,⟨ka,kc,k5,d9⟩,k6,k7⟩:=(HS.out.below HB.out) k (by rw[HN.out];exact m9);subst ea;have t5:=ye _ _ k0;have a9:Hid (∀ E,zba n (nd S k)=E->E≠0->R=E):=fun E h1 h2=>CF.out k m9 HA.out E h1 h2
   have i5:Hid (zba n (nd S k)=0->∀ i,i<k+1->zba n (nd S i)=0):=fun h i hi=>by
    by_cases e:i=k
    ·subst e;exact h
    ·exact HA.out i (by omega)
   have j0:=l4.out k (by rw[HN.out];exact m9);obtain⟨x,hx⟩:∃ x,nd S k=x:=⟨_,rfl⟩;rw[hx] at k0 k1 k2 k3 k4 k5 k6 k7 d9 a9 i5 j0;clear hx CF;have o4:Hid (zaj wr ka x.ks):=d9;clear d9;have r1:=zbR x.n 0 1000000;have r2:=zbR x.t 0 99;have r3:=zbR x.m (-1000000) 1000000;have HX:Hid (∀ b1 b2 b3,decide (0<=x.n/\x.n<=1000000)=b1->decide (0<=x.t/\x.t<=99)=b2->decide (-1000000<=x.m/\x.m<=1000000)=b3->zbV x=(b1 && (b2 && b3))):=fun b1 b2 b3 h1 h2 h3=>by unfold zbV;rw[h1,h2,h3]
   obtain⟨b1,g6⟩:∃ b,decide (0<=x.n/\x.n<=1000000)=b:=⟨_,rfl⟩;obtain⟨b2,m5⟩:∃ b,decide (0<=x.t/\x.t<=99)=b:=⟨_,rfl⟩;obtain⟨b3,m6⟩:∃ b,decide (-1000000<=x.m/\x.m<=1000000)=b:=⟨_,rfl⟩;have i2:Hid (zbV x=(b1 && (b2 && b3))):=HX.out b1 b2 b3 g6 m5 m6;rw[g6] at r1;rw[m5] at r2;rw[m6] at r3;clear g6 m5 m6 HX;have RP:=fun W=>zbR x.p (-1) ((n:Int)-1) W;have RH:=fun W=>zbR x.h (-1) ((n:Int)-1) W;have RK:Hid (∀ y W,Calls _ _ _ _ _):=fun y W=>zbR y (-1) ((n:Int)-1) W;rw[show decide (-1<=x.p/\x.p<=(n:Int)-1)=zdT n x.p from rfl] at RP;rw[show decide (-1<=x.h/\x.h<=(n:Int)-1)=zdT n x.h from rfl] at RH;have o6:Hid (∀ i,i<x.ks.length->zdT n (x.ks.getD i 0)=false->zbv n x=false):=fun i hi h=>zgz (by rw[zaf _ _ hi];exact List.getElem_mem hi) h;have o7:Hid (zdT n x.p=false->zbv n x=false):=zic;have o5:Hid (zdT n x.h=false->zbv n x=false):=zib;have o8:Hid ((∀ i,i<x.ks.length->zdT n (x.ks.getD i 0)=true)->zdT n x.p=true->zdT n x.h=true->zbv n x=true):=fun h1 h2 h3=>zdb h2 h3 (fun y hy=>by obtain⟨i,hi,rfl⟩:=List.getElem_of_mem hy;have:=h1 i hi;rwa [zaf _ _ hi] at this);obtain⟨W1,T⟩:∃ W1,W1=wr.alloc (.cells #[.bool x.u,.int .i64 x.n,.int .i64 x.t,.int .i64 x.m,.int .i64 x.p,.slice ka x.ks.length kc,.int .i64 x.h,.bool x.c] 47):=⟨_,rfl⟩;have D:Hid (Below w.heap.size w W1):=by rw[T];exact HB.out.alloc HB.out.size _
   have Z:W1.cell? ⟨w.heap.size,0,none⟩=some (.slice (some ⟨nb,no,none⟩) n c):=by rw[T];go_simp
   have h9:Hid (zaj W1 ka x.ks):=by rw[T];exact o4.out.below ((yj _ _).alloc (yi _) _)
   cases b1 with
   | false =>
    have F:Hid (R=2):=a9.out 2 (zfG (by rw[i2.out];rfl)) (by omega);obtain⟨xu,U,xt,xm,I,a5,M,xc⟩:=x;dsimp only at *;generalize a5.length=xl at *;clear T Z
    go_wp2_with (first|(go_at_call_of 36 (Value.int .i64 U);refine(r1 _).mono ?_;rintro e w' ⟨rfl,rfl⟩)|(go_at_call_of 36 (Value.int .i64 xt);refine(r2 _).mono ?_;rintro e w' ⟨rfl,rfl⟩)|(go_at_call_of 36 (Value.int .i64 xm);refine(r3 _).mono ?_;rintro e w' ⟨rfl,rfl⟩))
    go_ret;exact⟨by rw[F.out];rfl,HB.out.alloc HB.out.size _⟩
   | true =>
    cases b2 with
    | false =>
     have F:Hid (R=2):=a9.out 2 (zfG (by rw[i2.out];rfl)) (by omega);obtain⟨xu,U,xt,xm,I,a5,M,xc⟩:=x;dsimp only at *;generalize a5.length=xl at *;clear T Z
     go_wp2_with (first|(go_at_call_of 36 (Value.int .i64 U);refine(r1 _).mono ?_;rintro e w' ⟨rfl,rfl⟩)|(go_at_call_of 36 (Value.int .i64 xt);refine(r2 _).mono ?_;rintro e w' ⟨rfl,rfl⟩)|(go_at_call_of 36 (Value.int .i64 xm);refine(r3 _).mono ?_;rintro e w' ⟨rfl,rfl⟩))
     go_ret;exact⟨by rw[F.out];rfl,HB.out.alloc HB.out.size _⟩
    | true =>
     cases b3 with
     | false =>
      have F:Hid (R=2):=a9.out 2 (zfG (by rw[i2.out];rfl)) (by omega);obtain⟨xu,U,xt,xm,I,a5,M,xc⟩:=x;dsimp only at *;generalize a5.length=xl at *;clear T Z
      go_wp2_with (first|(go_at_call_of 36 (Value.int .i64 U);refine(r1 _).mono ?_;rintro e w' ⟨rfl,rfl⟩)|(go_at_call_of 36 (Value.int .i64 xt);refine(r2 _).mono ?_;rintro e w' ⟨rfl,rfl⟩)|(go_at_call_of 36 (Value.int .i64 xm);refine(r3 _).mono ?_;rintro e w' ⟨rfl,rfl⟩))
      go_ret;exact⟨by rw[F.out];rfl,HB.out.alloc HB.out.size _⟩
     | true =>
      have HR:Hid (zbV x=true):=i2.out;have q9:Hid (x=x):=rfl;obtain⟨V,rfl⟩:∃ V,V=wr:=⟨_,rfl⟩;have h7:Hid (zcy x=if x.u then (if (x.n == 0) then false else if (x.h == -1) then !x.c else (x.p == -1)) else ((x.t == 0) && (x.m == 0) && (x.p == -1) && (x.h == -1) && ((x.ks.length:Int) == 0) && !x.c)):=zlS x;have h6:Hid (zbv n x=true->zcy x=false->R=3):=fun h1 h2=>a9.out 3 (zov HR.out h1 h2) (by omega);have b7:Hid (zbv n x=false->R=4):=fun h1=>a9.out 4 (zmp HR.out h1) (by omega);have i6:Hid (zbv n x=true->zcy x=true->∀ i,i<k+1->zba n (nd S i)=0):=fun h1 h2=>i5.out (zen HR.out h1 h2);generalize t1:zcy x=fx at *;generalize t6:zbv n x=nx at *;clear t1 t6 a9 i5 HR i2 q9;obtain⟨xu,U,xt,xm,I,a5,M,xc⟩:=x;dsimp only at *;obtain⟨xl,f0⟩:∃ l,a5.length=l:=⟨_,rfl⟩;have b8:Hid (a5.length=xl):=f0;rw[f0] at k5 T h7 j0;clear f0;have p0:W1.cell? ⟨V.heap.size,0,none⟩=some (.bool xu):=by rw[T];go_simp
      have p1:W1.cell? ⟨V.heap.size,1,none⟩=some (.int .i64 U):=by rw[T];go_simp
      have p2:W1.cell? ⟨V.heap.size,2,none⟩=some (.int .i64 xt):=by rw[T];go_simp
      have p3:W1.cell? ⟨V.heap.size,3,none⟩=some (.int .i64 xm):=by rw[T];go_simp
      have p4:W1.cell? ⟨V.heap.size,4,none⟩=some (.int .i64 I):=by rw[T];go_simp
      have p5:W1.cell? ⟨V.heap.size,5,none⟩=some (.slice ka xl kc):=by rw[T];go_simp
      have p6:W1.cell? ⟨V.heap.size,6,none⟩=some (.int .i64 M):=by rw[T];go_simp
      have p7:W1.cell? ⟨V.heap.size,7,none⟩=some (.bool xc):=by rw[T];go_simp
      go_wp2_with (first|(go_at_call_of 36 (Value.int .i64 U);refine(r1 _).mono ?_;rintro e w' ⟨rfl,rfl⟩)|(go_at_call_of 36 (Value.int .i64 xt);refine(r2 _).mono ?_;rintro e w' ⟨rfl,rfl⟩)|(go_at_call_of 36 (Value.int .i64 xm);refine(r3 _).mono ?_;rintro e w' ⟨rfl,rfl⟩))
      rw[<- T];clear T k0 k1 k2 k3 k4 k5 k6 k7 r1 r2 r3 cs;have x4:IntKind.i64.wrap ((n:Int)-1)=(n:Int)-1:=by rw[IntKind.wrap_i64];omega
      go_loopg [46] xl (fun g2 s46 w5=>∃ j:Nat,j<=xl/\xl-j<=g2/\s46=.int .i64 j/\w5=W1/\Hid (∀ i,i<j->zdT n (a5.getD i 0)=true))
      case atStart=>exact⟨0,by omega,by omega,rfl,rfl,fun i hi=>absurd hi (yr _)⟩
      case round =>
       obtain⟨j,hj,t2,rfl,j3,HK⟩:=hrel;have h2:=j3.symm;clear j3;subst h2;by_cases q4:j<xl
       ·have x3:(j:Int)<(xl:Int):=by omega
        obtain⟨kb,ko,m4,m8⟩:=h9.out j (by rw[b8.out];exact q4);subst m4;have rk:=fun W=>RK.out (a5.getD j 0) W;rw[show decide (-1<=a5.getD j 0/\a5.getD j 0<=(n:Int)-1)=zdT n (a5.getD j 0) from rfl] at rk
        cases hok:zdT n (a5.getD j 0) with
        | false =>
         have F:Hid (R=4):=b7.out (o6.out j (by rw[b8.out];exact q4) hok);rw[hok] at rk;clear hok;generalize a5.getD j 0=y at *
         go_wp2_with (go_at_call 36;refine(rk _).mono ?_;rintro e w' ⟨rfl,rfl⟩)
         go_ret;exact⟨by rw[F.out];rfl,D.out⟩
        | true =>
         have q7:Hid (∀ i,i<j+1->zdT n (a5.getD i 0)=true):=fun i hi=>by
          by_cases e:i=j
          ·subst e;exact hok
          ·exact HK.out i (by omega)
         rw[hok] at rk;clear hok HK;generalize n4:a5.getD j 0=y at rk m8;clear n4
         go_wp2_with (go_at_call 36;refine(rk _).mono ?_;rintro e w' ⟨rfl,rfl⟩)
         go_roundg (xl-(j+1))
         case measure=>omega
         case rel=>exact⟨j+1,by omega,by omega,by go_num,rfl,q7⟩
       ·obtain rfl:xl=j:=by omega
        have NT:Hid (zdT n I=true->zdT n M=true->nx=true):=fun h1 h2=>o8.out (fun i hi=>HK.out i (by rw[<- b8.out];exact hi)) h1 h2;clear HK o6 o8 h9 o4
        cases hop:zdT n I with
        | false =>
         have F:Hid (R=4):=b7.out (o7.out hop);rw[hop] at RP
         go_wp2_with (first|(go_at_call_of 36 (Value.int .i64 I);refine(RP _).mono ?_;rintro e w' ⟨rfl,rfl⟩)|(go_at_call_of 36 (Value.int .i64 M);refine(RH _).mono ?_;rintro e w' ⟨rfl,rfl⟩))
         go_ret;exact⟨by rw[F.out];rfl,D.out⟩
        | true =>
         rw[hop] at RP
         cases hoh:zdT n M with
         | false =>
          have F:Hid (R=4):=b7.out (o5.out hoh);rw[hoh] at RH
          go_wp2_with (first|(go_at_call_of 36 (Value.int .i64 I);refine(RP _).mono ?_;rintro e w' ⟨rfl,rfl⟩)|(go_at_call_of 36 (Value.int .i64 M);refine(RH _).mono ?_;rintro e w' ⟨rfl,rfl⟩))
          go_ret;exact⟨by rw[F.out];rfl,D.out⟩
         | true =>
          have q8:=NT.out hop hoh;subst q8;rw[hoh] at RH;have F3:Hid (fx=false->R=3):=h6.out rfl;have N0:Hid (fx=true->∀ i,i<k+1->zba n (nd S i)=0):=i6.out rfl;have FO:Hid _:=h7.out;clear hop hoh NT o7 o5 b7 h6 i6 h7 RK;obtain⟨et,g9⟩:∃ b,(xt == 0)=b:=⟨_,rfl⟩;obtain⟨em,g8⟩:∃ b,(xm == 0)=b:=⟨_,rfl⟩;obtain⟨ep,a6⟩:∃ b,(I == -1)=b:=⟨_,rfl⟩;obtain⟨eh,a4⟩:∃ b,(M == -1)=b:=⟨_,rfl⟩;obtain⟨el,g7⟩:∃ b,((xl:Int) == 0)=b:=⟨_,rfl⟩;obtain⟨en,J⟩:∃ b,(U == 0)=b:=⟨_,rfl⟩;rw[g9,g8,a6,a4,g7,J] at FO
          cases et with
          | false =>
           have r7:(xt != 0)=true:=by unfold bne;rw[g9];rfl
           have w9:¬ xt=0:=by simpa using g9
           cases xu with
           | false =>
            as_aux_lemma =>
             have F:Hid (R=3):=F3.out (by rw[FO.out];cases em <;> cases ep <;> cases eh <;> cases el <;> cases xc <;> cases en <;> rfl)
             go_wp2_with (first|(go_at_call_of 36 (Value.int .i64 I);refine(RP _).mono ?_;rintro e w' ⟨rfl,rfl⟩)|(go_at_call_of 36 (Value.int .i64 M);refine(RH _).mono ?_;rintro e w' ⟨rfl,rfl⟩))
             first
              |(go_ret;exact⟨by rw[F.out];rfl,D.out⟩)
              |(go_big_quiet (fail);go_wp2;go_ret;exact⟨by rw[F.out];rfl,Below.drewNs D.out _⟩)
           | true =>
            cases en with
            | false =>
             have a7:(U != 0)=true:=by unfold bne;rw[J];rfl
             have f8:¬ U=0:=by simpa using J
             cases eh with
             | false =>
              have d8:(M != -1)=true:=by unfold bne;rw[a4];rfl
              have m1:¬ M = -1:=by simpa using a4
              cases ep with
              | false =>
               have i9:(I != -1)=true:=by unfold bne;rw[a6];rfl
               have p8:¬ I = -1:=by simpa using a6
               as_aux_lemma =>
                have F:Hid (R=3):=F3.out (by rw[FO.out];cases em <;> cases el <;> cases xc <;> rfl)
                go_wp2_with (first|(go_at_call_of 36 (Value.int .i64 I);refine(RP _).mono ?_;rintro e w' ⟨rfl,rfl⟩)|(go_at_call_of 36 (Value.int .i64 M);refine(RH _).mono ?_;rintro e w' ⟨rfl,rfl⟩))
                first
                 |(go_ret;exact⟨by rw[F.out];rfl,D.out⟩)
                 |(go_big_quiet (fail);go_wp2;go_ret;exact⟨by rw[F.out];rfl,Below.drewNs D.out _⟩)
              | true =>
               have i9:(I != -1)=false:=by unfold bne;rw[a6];rfl
               have o9:decide (I = -1)=true:=by simpa using a6
               have p9:decide (¬ I = -1)=false:=by simpa using a6
               as_aux_lemma =>
                have F:Hid (∀ i,i<k+1->zba n (nd S i)=0):=N0.out (by rw[FO.out];cases em <;> cases el <;> cases xc <;> rfl)
                go_wp2_with (first|(go_at_call_of 36 (Value.int .i64 I);refine(RP _).mono ?_;rintro e w' ⟨rfl,rfl⟩)|(go_at_call_of 36 (Value.int .i64 M);refine(RH _).mono ?_;rintro e w' ⟨rfl,rfl⟩))
                first
                 |(go_roundg (n-(k+1));(case measure=>omega);(case rel=>exact⟨k+1,by omega,by omega,by go_num,D,Z,F⟩))
                 |(go_big_quiet (fail);go_wp2;go_roundg (n-(k+1));(case measure=>omega);(case rel=>exact⟨k+1,by omega,by omega,by go_num,Below.drewNs D.out _,Z,F⟩))
             | true =>
              have d8:(M != -1)=false:=by unfold bne;rw[a4];rfl
              have l9:decide (M = -1)=true:=by simpa using a4
              have m3:decide (¬ M = -1)=false:=by simpa using a4
              cases xc with
              | false =>
               as_aux_lemma =>
                have F:Hid (∀ i,i<k+1->zba n (nd S i)=0):=N0.out (by rw[FO.out];cases em <;> cases ep <;> cases el <;> rfl)
                go_wp2_with (first|(go_at_call_of 36 (Value.int .i64 I);refine(RP _).mono ?_;rintro e w' ⟨rfl,rfl⟩)|(go_at_call_of 36 (Value.int .i64 M);refine(RH _).mono ?_;rintro e w' ⟨rfl,rfl⟩))
                first
                 |(go_roundg (n-(k+1));(case measure=>omega);(case rel=>exact⟨k+1,by omega,by omega,by go_num,D,Z,F⟩))
                 |(go_big_quiet (fail);go_wp2;go_roundg (n-(k+1));(case measure=>omega);(case rel=>exact⟨k+1,by omega,by omega,by go_num,Below.drewNs D.out _,Z,F⟩))
              | true =>
               as_aux_lemma =>
                have F:Hid (R=3):=F3.out (by rw[FO.out];cases em <;> cases ep <;> cases el <;> rfl)
                go_wp2_with (first|(go_at_call_of 36 (Value.int .i64 I);refine(RP _).mono ?_;rintro e w' ⟨rfl,rfl⟩)|(go_at_call_of 36 (Value.int .i64 M);refine(RH _).mono ?_;rintro e w' ⟨rfl,rfl⟩))
                first
                 |(go_ret;exact⟨by rw[F.out];rfl,D.out⟩)
                 |(go_big_quiet (fail);go_wp2;go_ret;exact⟨by rw[F.out];rfl,Below.drewNs D.out _⟩)
            | true =>
             have a7:(U != 0)=false:=by unfold bne;rw[J];rfl
             have f7:decide (U=0)=true:=by simpa using J
             have f9:decide (¬ U=0)=false:=by simpa using J
             as_aux_lemma =>
              have F:Hid (R=3):=F3.out (by rw[FO.out];cases em <;> cases ep <;> cases eh <;> cases el <;> cases xc <;> rfl)
              go_wp2_with (first|(go_at_call_of 36 (Value.int .i64 I);refine(RP _).mono ?_;rintro e w' ⟨rfl,rfl⟩)|(go_at_call_of 36 (Value.int .i64 M);refine(RH _).mono ?_;rintro e w' ⟨rfl,rfl⟩))
              first
               |(go_ret;exact⟨by rw[F.out];rfl,D.out⟩)
               |(go_big_quiet (fail);go_wp2;go_ret;exact⟨by rw[F.out];rfl,Below.drewNs D.out _⟩)
          | true =>
           have r7:(xt != 0)=false:=by unfold bne;rw[g9];rfl
           have w8:decide (xt=0)=true:=by simpa using g9
           have x0:decide (¬ xt=0)=false:=by simpa using g9
           cases em with
           | false =>
            have r6:(xm != 0)=true:=by unfold bne;rw[g8];rfl
            have w4:¬ xm=0:=by simpa using g8
            cases xu with
            | false =>
             as_aux_lemma =>
              have F:Hid (R=3):=F3.out (by rw[FO.out];cases ep <;> cases eh <;> cases el <;> cases xc <;> cases en <;> rfl)
              go_wp2_with (first|(go_at_call_of 36 (Value.int .i64 I);refine(RP _).mono ?_;rintro e w' ⟨rfl,rfl⟩)|(go_at_call_of 36 (Value.int .i64 M);refine(RH _).mono ?_;rintro e w' ⟨rfl,rfl⟩))
              first
               |(go_ret;exact⟨by rw[F.out];rfl,D.out⟩)
               |(go_big_quiet (fail);go_wp2;go_ret;exact⟨by rw[F.out];rfl,Below.drewNs D.out _⟩)
            | true =>
             cases en with
             | false =>
              have a7:(U != 0)=true:=by unfold bne;rw[J];rfl
              have f8:¬ U=0:=by simpa using J
              cases eh with
              | false =>
               have d8:(M != -1)=true:=by unfold bne;rw[a4];rfl
               have m1:¬ M = -1:=by simpa using a4
               cases ep with
               | false =>
                have i9:(I != -1)=true:=by unfold bne;rw[a6];rfl
                have p8:¬ I = -1:=by simpa using a6
                as_aux_lemma =>
                 have F:Hid (R=3):=F3.out (by rw[FO.out];cases el <;> cases xc <;> rfl)
                 go_wp2_with (first|(go_at_call_of 36 (Value.int .i64 I);refine(RP _).mono ?_;rintro e w' ⟨rfl,rfl⟩)|(go_at_call_of 36 (Value.int .i64 M);refine(RH _).mono ?_;rintro e w' ⟨rfl,rfl⟩))
                 first
                  |(go_ret;exact⟨by rw[F.out];rfl,D.out⟩)
                  |(go_big_quiet (fail);go_wp2;go_ret;exact⟨by rw[F.out];rfl,Below.drewNs D.out _⟩)
               | true =>
                have i9:(I != -1)=false:=by unfold bne;rw[a6];rfl
                have o9:decide (I = -1)=true:=by simpa using a6
                have p9:decide (¬ I = -1)=false:=by simpa using a6
                as_aux_lemma =>
                 have F:Hid (∀ i,i<k+1->zba n (nd S i)=0):=N0.out (by rw[FO.out];cases el <;> cases xc <;> rfl)
                 go_wp2_with (first|(go_at_call_of 36 (Value.int .i64 I);refine(RP _).mono ?_;rintro e w' ⟨rfl,rfl⟩)|(go_at_call_of 36 (Value.int .i64 M);refine(RH _).mono ?_;rintro e w' ⟨rfl,rfl⟩))
                 first
                  |(go_roundg (n-(k+1));(case measure=>omega);(case rel=>exact⟨k+1,by omega,by omega,by go_num,D,Z,F⟩))
                  |(go_big_quiet (fail);go_wp2;go_roundg (n-(k+1));(case measure=>omega);(case rel=>exact⟨k+1,by omega,by omega,by go_num,Below.drewNs D.out _,Z,F⟩))
              | true =>
               have d8:(M != -1)=false:=by unfold bne;rw[a4];rfl
               have l9:decide (M = -1)=true:=by simpa using a4
               have m3:decide (¬ M = -1)=false:=by simpa using a4
               cases xc with
               | false =>
                as_aux_lemma =>
                 have F:Hid (∀ i,i<k+1->zba n (nd S i)=0):=N0.out (by rw[FO.out];cases ep <;> cases el <;> rfl)
                 go_wp2_with (first|(go_at_call_of 36 (Value.int .i64 I);refine(RP _).mono ?_;rintro e w' ⟨rfl,rfl⟩)|(go_at_call_of 36 (Value.int .i64 M);refine(RH _).mono ?_;rintro e w' ⟨rfl,rfl⟩))
                 first
                  |(go_roundg (n-(k+1));(case measure=>omega);(case rel=>exact⟨k+1,by omega,by omega,by go_num,D,Z,F⟩))
                  |(go_big_quiet (fail);go_wp2;go_roundg (n-(k+1));(case measure=>omega);(case rel=>exact⟨k+1,by omega,by omega,by go_num,Below.drewNs D.out _,Z,F⟩))
               | true =>
                as_aux_lemma =>
                 have F:Hid (R=3):=F3.out (by rw[FO.out];cases ep <;> cases el <;> rfl)
                 go_wp2_with (first|(go_at_call_of 36 (Value.int .i64 I);refine(RP _).mono ?_;rintro e w' ⟨rfl,rfl⟩)|(go_at_call_of 36 (Value.int .i64 M);refine(RH _).mono ?_;rintro e w' ⟨rfl,rfl⟩))
                 first
                  |(go_ret;exact⟨by rw[F.out];rfl,D.out⟩)
                  |(go_big_quiet (fail);go_wp2;go_ret;exact⟨by rw[F.out];rfl,Below.drewNs D.out _⟩)
             | true =>
              have a7:(U != 0)=false:=by unfold bne;rw[J];rfl
              have f7:decide (U=0)=true:=by simpa using J
              have f9:decide (¬ U=0)=false:=by simpa using J
              as_aux_lemma =>
               have F:Hid (R=3):=F3.out (by rw[FO.out];cases ep <;> cases eh <;> cases el <;> cases xc <;> rfl)
               go_wp2_with (first|(go_at_call_of 36 (Value.int .i64 I);refine(RP _).mono ?_;rintro e w' ⟨rfl,rfl⟩)|(go_at_call_of 36 (Value.int .i64 M);refine(RH _).mono ?_;rintro e w' ⟨rfl,rfl⟩))
               first
                |(go_ret;exact⟨by rw[F.out];rfl,D.out⟩)
                |(go_big_quiet (fail);go_wp2;go_ret;exact⟨by rw[F.out];rfl,Below.drewNs D.out _⟩)
           | true =>
            have r6:(xm != 0)=false:=by unfold bne;rw[g8];rfl
            have w1:decide (xm=0)=true:=by simpa using g8
            have w7:decide (¬ xm=0)=false:=by simpa using g8
            cases ep with
            | false =>
             have i9:(I != -1)=true:=by unfold bne;rw[a6];rfl
             have p8:¬ I = -1:=by simpa using a6
             cases xu with
             | false =>
              as_aux_lemma =>
               have F:Hid (R=3):=F3.out (by rw[FO.out];cases eh <;> cases el <;> cases xc <;> cases en <;> rfl)
               go_wp2_with (first|(go_at_call_of 36 (Value.int .i64 I);refine(RP _).mono ?_;rintro e w' ⟨rfl,rfl⟩)|(go_at_call_of 36 (Value.int .i64 M);refine(RH _).mono ?_;rintro e w' ⟨rfl,rfl⟩))
               first
                |(go_ret;exact⟨by rw[F.out];rfl,D.out⟩)
                |(go_big_quiet (fail);go_wp2;go_ret;exact⟨by rw[F.out];rfl,Below.drewNs D.out _⟩)
             | true =>
              cases en with
              | false =>
               have a7:(U != 0)=true:=by unfold bne;rw[J];rfl
               have f8:¬ U=0:=by simpa using J
               cases eh with
               | false =>
                have d8:(M != -1)=true:=by unfold bne;rw[a4];rfl
                have m1:¬ M = -1:=by simpa using a4
                as_aux_lemma =>
                 have F:Hid (R=3):=F3.out (by rw[FO.out];cases el <;> cases xc <;> rfl)
                 go_wp2_with (first|(go_at_call_of 36 (Value.int .i64 I);refine(RP _).mono ?_;rintro e w' ⟨rfl,rfl⟩)|(go_at_call_of 36 (Value.int .i64 M);refine(RH _).mono ?_;rintro e w' ⟨rfl,rfl⟩))
                 first
                  |(go_ret;exact⟨by rw[F.out];rfl,D.out⟩)
                  |(go_big_quiet (fail);go_wp2;go_ret;exact⟨by rw[F.out];rfl,Below.drewNs D.out _⟩)
               | true =>
                have d8:(M != -1)=false:=by unfold bne;rw[a4];rfl
                have l9:decide (M = -1)=true:=by simpa using a4
                have m3:decide (¬ M = -1)=false:=by simpa using a4
                cases xc with
                | false =>
                 as_aux_lemma =>
                  have F:Hid (∀ i,i<k+1->zba n (nd S i)=0):=N0.out (by rw[FO.out];cases el <;> rfl)
                  go_wp2_with (first|(go_at_call_of 36 (Value.int .i64 I);refine(RP _).mono ?_;rintro e w' ⟨rfl,rfl⟩)|(go_at_call_of 36 (Value.int .i64 M);refine(RH _).mono ?_;rintro e w' ⟨rfl,rfl⟩))
                  first
                   |(go_roundg (n-(k+1));(case measure=>omega);(case rel=>exact⟨k+1,by omega,by omega,by go_num,D,Z,F⟩))
                   |(go_big_quiet (fail);go_wp2;go_roundg (n-(k+1));(case measure=>omega);(case rel=>exact⟨k+1,by omega,by omega,by go_num,Below.drewNs D.out _,Z,F⟩))
                | true =>
                 as_aux_lemma =>
                  have F:Hid (R=3):=F3.out (by rw[FO.out];cases el <;> rfl)
                  go_wp2_with (first|(go_at_call_of 36 (Value.int .i64 I);refine(RP _).mono ?_;rintro e w' ⟨rfl,rfl⟩)|(go_at_call_of 36 (Value.int .i64 M);refine(RH _).mono ?_;rintro e w' ⟨rfl,rfl⟩))
                  first
                   |(go_ret;exact⟨by rw[F.out];rfl,D.out⟩)
                   |(go_big_quiet (fail);go_wp2;go_ret;exact⟨by rw[F.out];rfl,Below.drewNs D.out _⟩)
              | true =>
               have a7:(U != 0)=false:=by unfold bne;rw[J];rfl
               have f7:decide (U=0)=true:=by simpa using J
               have f9:decide (¬ U=0)=false:=by simpa using J
               as_aux_lemma =>
                have F:Hid (R=3):=F3.out (by rw[FO.out];cases eh <;> cases el <;> cases xc <;> rfl)
                go_wp2_with (first|(go_at_call_of 36 (Value.int .i64 I);refine(RP _).mono ?_;rintro e w' ⟨rfl,rfl⟩)|(go_at_call_of 36 (Value.int .i64 M);refine(RH _).mono ?_;rintro e w' ⟨rfl,rfl⟩))
                first
                 |(go_ret;exact⟨by rw[F.out];rfl,D.out⟩)
                 |(go_big_quiet (fail);go_wp2;go_ret;exact⟨by rw[F.out];rfl,Below.drewNs D.out _⟩)
            | true =>
             have i9:(I != -1)=false:=by unfold bne;rw[a6];rfl
             have o9:decide (I = -1)=true:=by simpa using a6
             have p9:decide (¬ I = -1)=false:=by simpa using a6
             cases eh with
             | false =>
              have d8:(M != -1)=true:=by unfold bne;rw[a4];rfl
              have m1:¬ M = -1:=by simpa using a4
              cases xu with
              | false =>
               as_aux_lemma =>
                have F:Hid (R=3):=F3.out (by rw[FO.out];cases el <;> cases xc <;> cases en <;> rfl)
                go_wp2_with (first|(go_at_call_of 36 (Value.int .i64 I);refine(RP _).mono ?_;rintro e w' ⟨rfl,rfl⟩)|(go_at_call_of 36 (Value.int .i64 M);refine(RH _).mono ?_;rintro e w' ⟨rfl,rfl⟩))
                first
                 |(go_ret;exact⟨by rw[F.out];rfl,D.out⟩)
                 |(go_big_quiet (fail);go_wp2;go_ret;exact⟨by rw[F.out];rfl,Below.drewNs D.out _⟩)
              | true =>
               cases en with
               | false =>
                have a7:(U != 0)=true:=by unfold bne;rw[J];rfl
                have f8:¬ U=0:=by simpa using J
                as_aux_lemma =>
                 have F:Hid (∀ i,i<k+1->zba n (nd S i)=0):=N0.out (by rw[FO.out];cases el <;> cases xc <;> rfl)
                 go_wp2_with (first|(go_at_call_of 36 (Value.int .i64 I);refine(RP _).mono ?_;rintro e w' ⟨rfl,rfl⟩)|(go_at_call_of 36 (Value.int .i64 M);refine(RH _).mono ?_;rintro e w' ⟨rfl,rfl⟩))
                 first
                  |(go_roundg (n-(k+1));(case measure=>omega);(case rel=>exact⟨k+1,by omega,by omega,by go_num,D,Z,F⟩))
                  |(go_big_quiet (fail);go_wp2;go_roundg (n-(k+1));(case measure=>omega);(case rel=>exact⟨k+1,by omega,by omega,by go_num,Below.drewNs D.out _,Z,F⟩))
               | true =>
                have a7:(U != 0)=false:=by unfold bne;rw[J];rfl
                have f7:decide (U=0)=true:=by simpa using J
                have f9:decide (¬ U=0)=false:=by simpa using J
                as_aux_lemma =>
                 have F:Hid (R=3):=F3.out (by rw[FO.out];cases el <;> cases xc <;> rfl)
                 go_wp2_with (first|(go_at_call_of 36 (Value.int .i64 I);refine(RP _).mono ?_;rintro e w' ⟨rfl,rfl⟩)|(go_at_call_of 36 (Value.int .i64 M);refine(RH _).mono ?_;rintro e w' ⟨rfl,rfl⟩))
                 first
                  |(go_ret;exact⟨by rw[F.out];rfl,D.out⟩)
                  |(go_big_quiet (fail);go_wp2;go_ret;exact⟨by rw[F.out];rfl,Below.drewNs D.out _⟩)
             | true =>
              have d8:(M != -1)=false:=by unfold bne;rw[a4];rfl
              have l9:decide (M = -1)=true:=by simpa using a4
              have m3:decide (¬ M = -1)=false:=by simpa using a4
              cases el with
              | false =>
               have r5:((xl:Int) != 0)=true:=by unfold bne;rw[g7];rfl
               have v9:¬ (xl:Int)=0:=by simpa using g7
               cases xu with
               | false =>
                as_aux_lemma =>
                 have F:Hid (R=3):=F3.out (by rw[FO.out];cases xc <;> cases en <;> rfl)
                 go_wp2_with (first|(go_at_call_of 36 (Value.int .i64 I);refine(RP _).mono ?_;rintro e w' ⟨rfl,rfl⟩)|(go_at_call_of 36 (Value.int .i64 M);refine(RH _).mono ?_;rintro e w' ⟨rfl,rfl⟩))
                 first
                  |(go_ret;exact⟨by rw[F.out];rfl,D.out⟩)
                  |(go_big_quiet (fail);go_wp2;go_ret;exact⟨by rw[F.out];rfl,Below.drewNs D.out _⟩)
               | true =>
                cases en with
                | false =>
                 have a7:(U != 0)=true:=by unfold bne;rw[J];rfl
                 have f8:¬ U=0:=by simpa using J
                 cases xc with
                 | false =>
                  as_aux_lemma =>
                   have F:Hid (∀ i,i<k+1->zba n (nd S i)=0):=N0.out (by rw[FO.out];rfl)
                   go_wp2_with (first|(go_at_call_of 36 (Value.int .i64 I);refine(RP _).mono ?_;rintro e w' ⟨rfl,rfl⟩)|(go_at_call_of 36 (Value.int .i64 M);refine(RH _).mono ?_;rintro e w' ⟨rfl,rfl⟩))
                   first
                    |(go_roundg (n-(k+1));(case measure=>omega);(case rel=>exact⟨k+1,by omega,by omega,by go_num,D,Z,F⟩))
                    |(go_big_quiet (fail);go_wp2;go_roundg (n-(k+1));(case measure=>omega);(case rel=>exact⟨k+1,by omega,by omega,by go_num,Below.drewNs D.out _,Z,F⟩))
                 | true =>
                  as_aux_lemma =>
                   have F:Hid (R=3):=F3.out (by rw[FO.out];rfl)
                   go_wp2_with (first|(go_at_call_of 36 (Value.int .i64 I);refine(RP _).mono ?_;rintro e w' ⟨rfl,rfl⟩)|(go_at_call_of 36 (Value.int .i64 M);refine(RH _).mono ?_;rintro e w' ⟨rfl,rfl⟩))
                   first
                    |(go_ret;exact⟨by rw[F.out];rfl,D.out⟩)
                    |(go_big_quiet (fail);go_wp2;go_ret;exact⟨by rw[F.out];rfl,Below.drewNs D.out _⟩)
                | true =>
                 have a7:(U != 0)=false:=by unfold bne;rw[J];rfl
                 have f7:decide (U=0)=true:=by simpa using J
                 have f9:decide (¬ U=0)=false:=by simpa using J
                 as_aux_lemma =>
                  have F:Hid (R=3):=F3.out (by rw[FO.out];cases xc <;> rfl)
                  go_wp2_with (first|(go_at_call_of 36 (Value.int .i64 I);refine(RP _).mono ?_;rintro e w' ⟨rfl,rfl⟩)|(go_at_call_of 36 (Value.int .i64 M);refine(RH _).mono ?_;rintro e w' ⟨rfl,rfl⟩))
                  first
                   |(go_ret;exact⟨by rw[F.out];rfl,D.out⟩)
                   |(go_big_quiet (fail);go_wp2;go_ret;exact⟨by rw[F.out];rfl,Below.drewNs D.out _⟩)
              | true =>
               have r5:((xl:Int) != 0)=false:=by unfold bne;rw[g7];rfl
               have v8:decide ((xl:Int)=0)=true:=by simpa using g7
               have w0:decide (¬ (xl:Int)=0)=false:=by simpa using g7
               cases xc with
               | false =>
                cases xu with
                | false =>
                 as_aux_lemma =>
                  have F:Hid (∀ i,i<k+1->zba n (nd S i)=0):=N0.out (by rw[FO.out];cases en <;> rfl)
                  go_wp2_with (first|(go_at_call_of 36 (Value.int .i64 I);refine(RP _).mono ?_;rintro e w' ⟨rfl,rfl⟩)|(go_at_call_of 36 (Value.int .i64 M);refine(RH _).mono ?_;rintro e w' ⟨rfl,rfl⟩))
                  first
                   |(go_roundg (n-(k+1));(case measure=>omega);(case rel=>exact⟨k+1,by omega,by omega,by go_num,D,Z,F⟩))
                   |(go_big_quiet (fail);go_wp2;go_roundg (n-(k+1));(case measure=>omega);(case rel=>exact⟨k+1,by omega,by omega,by go_num,Below.drewNs D.out _,Z,F⟩))
                | true =>
                 cases en with
                 | false =>
                  have a7:(U != 0)=true:=by unfold bne;rw[J];rfl
                  have f8:¬ U=0:=by simpa using J
                  as_aux_lemma =>
                   have F:Hid (∀ i,i<k+1->zba n (nd S i)=0):=N0.out (by rw[FO.out];rfl)
                   go_wp2_with (first|(go_at_call_of 36 (Value.int .i64 I);refine(RP _).mono ?_;rintro e w' ⟨rfl,rfl⟩)|(go_at_call_of 36 (Value.int .i64 M);refine(RH _).mono ?_;rintro e w' ⟨rfl,rfl⟩))
                   first
                    |(go_roundg (n-(k+1));(case measure=>omega);(case rel=>exact⟨k+1,by omega,by omega,by go_num,D,Z,F⟩))
                    |(go_big_quiet (fail);go_wp2;go_roundg (n-(k+1));(case measure=>omega);(case rel=>exact⟨k+1,by omega,by omega,by go_num,Below.drewNs D.out _,Z,F⟩))
                 | true =>
                  have a7:(U != 0)=false:=by unfold bne;rw[J];rfl
                  have f7:decide (U=0)=true:=by simpa using J
                  have f9:decide (¬ U=0)=false:=by simpa using J
                  as_aux_lemma =>
                   have F:Hid (R=3):=F3.out (by rw[FO.out];rfl)
                   go_wp2_with (first|(go_at_call_of 36 (Value.int .i64 I);refine(RP _).mono ?_;rintro e w' ⟨rfl,rfl⟩)|(go_at_call_of 36 (Value.int .i64 M);refine(RH _).mono ?_;rintro e w' ⟨rfl,rfl⟩))
                   first
                    |(go_ret;exact⟨by rw[F.out];rfl,D.out⟩)
                    |(go_big_quiet (fail);go_wp2;go_ret;exact⟨by rw[F.out];rfl,Below.drewNs D.out _⟩)
               | true =>
                cases xu with
                | false =>
                 as_aux_lemma =>
                  have F:Hid (R=3):=F3.out (by rw[FO.out];cases en <;> rfl)
                  go_wp2_with (first|(go_at_call_of 36 (Value.int .i64 I);refine(RP _).mono ?_;rintro e w' ⟨rfl,rfl⟩)|(go_at_call_of 36 (Value.int .i64 M);refine(RH _).mono ?_;rintro e w' ⟨rfl,rfl⟩))
                  first
                   |(go_ret;exact⟨by rw[F.out];rfl,D.out⟩)
                   |(go_big_quiet (fail);go_wp2;go_ret;exact⟨by rw[F.out];rfl,Below.drewNs D.out _⟩)
                | true =>
                 cases en with
                 | false =>
                  have a7:(U != 0)=true:=by unfold bne;rw[J];rfl
                  have f8:¬ U=0:=by simpa using J
                  as_aux_lemma =>
                   have F:Hid (R=3):=F3.out (by rw[FO.out];rfl)
                   go_wp2_with (first|(go_at_call_of 36 (Value.int .i64 I);refine(RP _).mono ?_;rintro e w' ⟨rfl,rfl⟩)|(go_at_call_of 36 (Value.int .i64 M);refine(RH _).mono ?_;rintro e w' ⟨rfl,rfl⟩))
                   first
                    |(go_ret;exact⟨by rw[F.out];rfl,D.out⟩)
                    |(go_big_quiet (fail);go_wp2;go_ret;exact⟨by rw[F.out];rfl,Below.drewNs D.out _⟩)
                 | true =>
                  have a7:(U != 0)=false:=by unfold bne;rw[J];rfl
                  have f7:decide (U=0)=true:=by simpa using J
                  have f9:decide (¬ U=0)=false:=by simpa using J
                  as_aux_lemma =>
                   have F:Hid (R=3):=F3.out (by rw[FO.out];rfl)
                   go_wp2_with (first|(go_at_call_of 36 (Value.int .i64 I);refine(RP _).mono ?_;rintro e w' ⟨rfl,rfl⟩)|(go_at_call_of 36 (Value.int .i64 M);refine(RH _).mono ?_;rintro e w' ⟨rfl,rfl⟩))
                   first
                    |(go_ret;exact⟨by rw[F.out];rfl,D.out⟩)
                    |(go_big_quiet (fail);go_wp2;go_ret;exact⟨by rw[F.out];rfl,Below.drewNs D.out _⟩)
  ·obtain rfl:k=n:=by omega
   have j4:Hid (∀ i,i<k->zba k (nd S i)=0):=HA;have RT:Hid (R=zeQ S):=CT.out j4.out;have r0:Hid ((∀ i,i<k->OkB S i)->R=0):=fun h=>RT.out.trans (OT.out j4.out h);have q6:Hid (∀ i,i<k->¬ OkB S i->R=6):=fun i hi h=>RT.out.trans (BT.out j4.out i hi h);clear HA j4 RT CT OT BT CF;obtain⟨n,rfl⟩:∃ n,n=k:=⟨_,rfl⟩;have DL:Hid (∀ (i:Nat) W,zae W a S->Calls _ _ _ _ _):=fun i W hW=>zgC a c S (i:Int) W (by rw[HN.out];exact hM) hW;rw[HN.out] at DL
   go_wp2_with fail
   go_loopg [139] n (fun g s139 w2=>∃ i:Nat,i<=n/\n-i<=g/\s139=.int .i64 i/\Hid (Below w.heap.size w w2)/\w2.cell? ⟨w.heap.size,0,none⟩=some (.slice a n c)/\Hid (∀ j,j<i->OkB S j))
   case atStart=>exact⟨0,by omega,by omega,rfl,HB,cs,fun j hj=>absurd hj (yr _)⟩
   case round =>
    clear HB cs l3;obtain⟨i,hi,t2,rfl,HB,cs,HO⟩:=hrel;have l3:=ye _ _ cs;by_cases q3:i<n
    ·have t9:(i:Int)<(n:Int):=by omega
     obtain⟨nb,no,ea,k0,k1,k2,k3,k4,⟨ka,kc,k5,_⟩,k6,k7⟩:=(HS.out.below HB.out) i (by rw[HN.out];exact q3);subst ea;have t5:=ye _ _ k0;have a8:Hid (¬ OkB S i->R=6):=fun h=>q6.out i q3 h;obtain⟨xu,n3⟩:∃ u,(nd S i).u=u:=⟨_,rfl⟩;obtain⟨I,n2⟩:∃ p,(nd S i).p=p:=⟨_,rfl⟩;have l7:Hid ((nd S i).u=xu):=n3;have i4:Hid ((nd S i).p=I):=n2;rw[n3] at k0;rw[n2] at k4;clear n3 n2;obtain⟨V,rfl⟩:∃ V,V=wr:=⟨_,rfl⟩;obtain⟨W1,T⟩:∃ W1,W1=V.alloc (.cells #[.bool xu,.int .i64 (nd S i).n,.int .i64 (nd S i).t,.int .i64 (nd S i).m,.int .i64 I,.slice ka (nd S i).ks.length kc,.int .i64 (nd S i).h,.bool (nd S i).c] 47):=⟨_,rfl⟩;have j6:Hid (Below w.heap.size w W1):=by rw[T];exact HB.out.alloc HB.out.size _
     have c1:W1.cell? ⟨w.heap.size,0,none⟩=some (.slice (some ⟨nb,no,none⟩) n c):=by rw[T];go_simp
     have u1:W1.cell? ⟨V.heap.size,0,none⟩=some (.bool xu):=by rw[T];go_simp
     have p1:W1.cell? ⟨V.heap.size,4,none⟩=some (.int .i64 I):=by rw[T];go_simp
     have hV:w.heap.size<V.heap.size:=l3
     go_wp2_with fail
     rw[<- T];clear T k0 k1 k2 k3 k4 k5 k6 k7 cs l3;have Z0:Hid (zdA S 0 i=0/\zbp S 0 i=0):=⟨zfc S i,rfl⟩
     go_loopg [10,11,147] n (fun g s10 s11 s147 w3=>∃ (k a1 b1:Nat) (A B:Int),k<=n/\n-k<=g/\s147=.int .i64 k/\s10=.int .i64 A/\s11=.int .i64 B/\A=a1/\B=b1/\a1=zdA S k i/\b1=zbp S k i/\Hid (Below W1.heap.size W1 w3)/\Hid (∀ k', k' < k->zfM S i k'))
     case atStart=>exact⟨0,0,0,0,0,by omega,by omega,rfl,rfl,rfl,rfl,rfl,Z0.out.1.symm,Z0.out.2.symm,yj _ _,fun j hj=>absurd hj (yr _)⟩
     case round =>
      obtain⟨k,a1,b1,A,B,hk,x1,rfl,rfl,rfl,g0,g4,q2,g6,HR,i3⟩:=hrel;have c7:Hid (a1=zdA S k i):=q2;have f6:Hid (b1=zbp S k i):=g6;clear q2 g6 Z0;have o2:Hid (Below w.heap.size w wr):=j6.out.trans (HR.out.mono j6.out.size);have l0:=(HR.out.cell (p:=⟨w.heap.size,0,none⟩) (ye _ _ c1)).trans c1;have l1:=(HR.out.cell (p:=⟨V.heap.size,0,none⟩) (ye _ _ u1)).trans u1;have l2:=(HR.out.cell (p:=⟨V.heap.size,4,none⟩) (ye _ _ p1)).trans p1;have q0:=ye _ _ l0;have q1:=ye _ _ l1;by_cases j1:k<n
      ·as_aux_lemma =>
         subst g0 g4;have v0:(k:Int)<(n:Int):=by omega
         obtain⟨x5,x6,r4,k0,k1,k2,k3,k4,⟨n5,q5,k5,d9⟩,k6,k7⟩:=(HS.out.below o2.out) k (by rw[HN.out];exact j1);cases r4;have v4:=ye _ _ k0;have j0:=l4.out k (by rw[HN.out];exact j1);obtain⟨ks,j2⟩:∃ ks,(nd S k).ks=ks:=⟨_,rfl⟩;obtain⟨hh,m7⟩:∃ h,(nd S k).h=h:=⟨_,rfl⟩;have j8:Hid ((nd S k).ks=ks):=j2;have j7:Hid ((nd S k).h=hh):=m7;rw[j2] at d9 k5 j0;rw[m7] at k6;clear j2 m7;obtain⟨xl,f0⟩:∃ l,ks.length=l:=⟨_,rfl⟩;have b8:Hid (ks.length=xl):=f0;rw[f0] at k5 j0;clear f0;obtain⟨W2,c6⟩:∃ W2,W2=wr.alloc (.cells #[.bool (nd S k).u,.int .i64 (nd S k).n,.int .i64 (nd S k).t,.int .i64 (nd S k).m,.int .i64 (nd S k).p,.slice n5 xl q5,.int .i64 hh,.bool (nd S k).c] 47):=⟨_,rfl⟩;have i1:Hid (Below W1.heap.size W1 W2):=by rw[c6];exact HR.out.alloc HR.out.size _
         have D:Hid (Below w.heap.size w W2):=j6.out.trans (i1.out.mono j6.out.size);have h9:Hid (zaj W2 n5 ks):=by rw[c6];exact d9.below ((yj _ _).alloc (yi _) _)
         clear d9;have d0:W2.cell? ⟨w.heap.size,0,none⟩=some (.slice (some ⟨nb,no,none⟩) n c):=by rw[c6];go_simp
         have d1:W2.cell? ⟨V.heap.size,0,none⟩=some (.bool xu):=by rw[c6];go_simp
         have d2:W2.cell? ⟨V.heap.size,4,none⟩=some (.int .i64 I):=by rw[c6];go_simp
         have d5:W2.cell? ⟨wr.heap.size,5,none⟩=some (.slice n5 xl q5):=by rw[c6];go_simp
         have d6:W2.cell? ⟨wr.heap.size,6,none⟩=some (.int .i64 hh):=by rw[c6];go_simp
         go_wp2_with fail
         rw[<- c6];clear c6 k0 k1 k2 k3 k4 k5 k6 k7 l0 l1 l2 q0 q1 HR;have SB:Hid (∀ q,q<xl->¬ (ks.getD q 0≠-1/\(ks.getD q 0=(i:Int)->xu=true/\I=k))->R=6):=fun q hq h=>a8.out (zhB (by rw[HN.out];exact j1) fun hs=>h (zpl j8.out l7.out i4.out (by rw[b8.out];exact hq) hs));have UZ:Hid (I=k->a1=0):=fun e=>c7.out.trans (zgI (by rw[HN.out];omega) i3.out (fun k' t3 e' => by rw[i4.out,e] at e'; omega))
         have ST:Hid ((∀ j,j<xl->ks.getD j 0≠-1/\(ks.getD j 0=(i:Int)->xu=true/\I=k))->(hh=(i:Int)->xu=true)->∀ k', k' < k+1->zfM S i k'):=fun h1 h2 k' t3=>by
          by_cases e:k' = k
          ·subst e;exact zpk j8.out l7.out i4.out j7.out (by rw[b8.out];exact h1) h2
          ·exact i3.out k' (by omega)
         have n7:Hid (zgc ks 0 i=0):=ziD ks i;have l5:Hid (∀ q,q<xl->zgc ks (q+1) i=zgc ks q i+(if ks.getD q 0=(i:Int) then 1 else 0)):=fun q hq=>ziC ks q i (by rw[b8.out];exact hq);have n8:Hid (∀ q,zgc ks q i<=q):=fun q=>znA ks q i
         have o0:a1+zgc ks xl i=zdA S (k+1) i:=by
          have h1:=zcO S k i (by rw[HN.out];exact j1);have h2:=zkQ ks i;rw[b8.out] at h2;rw[h1,j8.out,c7.out,h2]
         have CU:Hid (a1+zgc ks xl i=zdA S (k+1) i):=o0
         have n6:zbp S (k+1) i=b1+(if hh=(i:Int) then 1 else 0):=by
          have h1:zbp S (k+1) i=zbp S k i+(if (nd S k).h=(i:Int) then 1 else 0):=rfl;rw[h1,j7.out,f6.out]
         have CH:Hid (zbp S (k+1) i=b1+(if hh=(i:Int) then 1 else 0)):=n6;clear o0 n6;have t7:b1<=24:=by have:=ziO S i k;rw[f6.out];omega
         have l6:Hid (hh=(i:Int)->xu=false->R=6):=fun e1 e2=>a8.out (zhB (by rw[HN.out];exact j1) fun hs=>by have:=hs.2 (j7.out.trans e1);rw[l7.out,e2] at this;cases this);clear c7 f6 i3 j8 j7 a8
         go_loopg [10,155] xl (fun g2 s10 s155 w5=>∃ (q a2:Nat),q<=xl/\xl-q<=g2/\s155=.int .i64 q/\s10=.int .i64 a2/\a2=a1+zgc ks q i/\w5=W2/\Hid (∀ j,j<q->ks.getD j 0≠-1/\(ks.getD j 0=(i:Int)->xu=true/\I=k)))
         case atStart=>exact⟨0,a1,by omega,by omega,rfl,rfl,by rw[n7.out];rfl,rfl,fun j hj=>absurd hj (yr _)⟩
         case round =>
          obtain⟨q,a2,hq,x2,rfl,rfl,k9,j3,HK⟩:=hrel;have h8:Hid (a2=a1+zgc ks q i):=k9;have h2:=j3.symm;clear j3 k9 n7;subst h2;by_cases n1:q<xl
          ·have v5:(q:Int)<(xl:Int):=by omega
           obtain⟨kb,ko,m4,m8⟩:=h9.out q (by rw[b8.out];exact n1);subst m4;have b9:Hid (¬ (ks.getD q 0≠-1/\(ks.getD q 0=(i:Int)->xu=true/\I=k))->R=6):=SB.out q n1;have n9:=l5.out q n1
           have c9:Hid ((ks.getD q 0≠-1/\(ks.getD q 0=(i:Int)->xu=true/\I=k))->∀ j,j<q+1->ks.getD j 0≠-1/\(ks.getD j 0=(i:Int)->xu=true/\I=k)):=fun h j hj=>by
            by_cases e:j=q
            ·subst e;exact h
            ·exact HK.out j (by omega)
           have c8:Hid (zgc ks (q+1) i=zgc ks q i+(if ks.getD q 0=(i:Int) then 1 else 0)):=n9;clear n9 l5 SB CU;generalize n4:ks.getD q 0=y at m8 b9 c9 c8;clear n4;by_cases y1:y = -1
           ·have F:Hid (R=6):=b9.out fun h=>h.1 y1;subst y1;clear b9 c9 c8
            first
             |(go_wp2_with fail;go_ret;exact⟨by rw[F.out];rfl,D.out⟩)
             |(go_wp2_with fail;go_big_quiet (fail);go_wp2_with fail;go_ret;exact⟨by rw[F.out];rfl,Below.drewNs D.out _⟩)
           ·by_cases y2:y=(i:Int)
            ·subst y2
             cases xu with
             | false =>
              have F:Hid (R=6):=b9.out fun h=>by cases (h.2 rfl).1
              clear b9 c9 c8
              first
               |(go_wp2_with fail;go_ret;exact⟨by rw[F.out];rfl,D.out⟩)
               |(go_wp2_with fail;go_big_quiet (fail);go_wp2_with fail;go_ret;exact⟨by rw[F.out];rfl,Below.drewNs D.out _⟩)
             | true =>
              by_cases y3:I=(k:Int)
              ·have r9:=UZ.out y3;have t4:=n8.out q;have k9:=h8.out;have t8:a2+1<=9223372036854775807:=by omega
               have NA:Hid (a2+1=a1+zgc ks (q+1) i):=(show a2+1=a1+zgc ks (q+1) i from by rw[c8.out,yd rfl,h8.out];omega);have NK:Hid _:=c9.out ⟨y1,fun _=>⟨rfl,y3⟩⟩;clear r9 t4 k9 b9 c9 c8;subst y3
               first
                |(go_wp2_with fail;go_roundg (xl-(q+1));(case measure=>omega);(case rel=>exact⟨q+1,a2+1,by omega,by omega,by go_num,by go_num,NA.out,rfl,NK⟩))
                |(go_wp2_with fail;go_big_quiet (fail);go_wp2_with fail;go_roundg (xl-(q+1));(case measure=>omega);(case rel=>exact⟨q+1,a2+1,by omega,by omega,by go_num,by go_num,NA.out,rfl,NK⟩))
              ·have F:Hid (R=6):=b9.out fun h=>y3 (h.2 rfl).2;clear b9 c9 c8
               first
                |(go_wp2_with fail;go_ret;exact⟨by rw[F.out];rfl,D.out⟩)
                |(go_wp2_with fail;go_big_quiet (fail);go_wp2_with fail;go_ret;exact⟨by rw[F.out];rfl,Below.drewNs D.out _⟩)
            ·have NA:Hid (a2=a1+zgc ks (q+1) i):=(show a2=a1+zgc ks (q+1) i from by rw[c8.out,ya y2,h8.out];omega);have NK:Hid _:=c9.out ⟨y1,fun e=>absurd e y2⟩;clear b9 c9 c8
             first
              |(go_wp2_with fail;go_roundg (xl-(q+1));(case measure=>omega);(case rel=>exact⟨q+1,a2,by omega,by omega,by go_num,rfl,NA.out,rfl,NK⟩))
              |(go_wp2_with fail;go_big_quiet (fail);go_wp2_with fail;go_roundg (xl-(q+1));(case measure=>omega);(case rel=>exact⟨q+1,a2,by omega,by omega,by go_num,rfl,NA.out,rfl,NK⟩))
          ·obtain rfl:xl=q:=by omega
           have j9:Hid ((hh=(i:Int)->xu=true)->∀ k', k' < k+1->zfM S i k'):=fun h=>ST.out HK.out h;have j5:Hid (a2=zdA S (k+1) i):=h8.out.trans CU.out;clear HK ST SB l5 n8 CU h8 h9 UZ;by_cases y1:hh=(i:Int)
           ·cases xu with
            | false =>
             have F:Hid (R=6):=l6.out y1 rfl;subst y1
             first
              |(go_wp2_with fail;go_ret;exact⟨by rw[F.out];rfl,D.out⟩)
              |(go_wp2_with fail;go_big_quiet (fail);go_wp2_with fail;go_ret;exact⟨by rw[F.out];rfl,Below.drewNs D.out _⟩)
            | true =>
             have h5:Hid (b1+1=zbp S (k+1) i):=(show b1+1=zbp S (k+1) i from by rw[CH.out,yd y1]);have i7:Hid _:=j9.out (fun _=>rfl);clear CH j9 l6;subst y1
             first
              |(go_wp2_with fail;go_roundg (n-(k+1));(case measure=>omega);(case rel=>exact⟨k+1,a2,b1+1,_,_,by omega,by omega,by go_num,rfl,by go_num,rfl,rfl,j5.out,h5.out,i1,i7⟩))
              |(go_wp2_with fail;go_big_quiet (fail);go_wp2_with fail;go_roundg (n-(k+1));(case measure=>omega);(case rel=>exact⟨k+1,a2,b1+1,_,_,by omega,by omega,by go_num,rfl,by go_num,rfl,rfl,j5.out,h5.out,i1,i7⟩))
           ·have h5:Hid (b1=zbp S (k+1) i):=(show b1=zbp S (k+1) i from by rw[CH.out,ya y1];omega);have i7:Hid _:=j9.out (fun e=>absurd e y1);clear CH j9 l6
            first
             |(go_wp2_with fail;go_roundg (n-(k+1));(case measure=>omega);(case rel=>exact⟨k+1,a2,b1,_,_,by omega,by omega,by go_num,rfl,rfl,rfl,rfl,j5.out,h5.out,i1,i7⟩))
             |(go_wp2_with fail;go_big_quiet (fail);go_wp2_with fail;go_roundg (n-(k+1));(case measure=>omega);(case rel=>exact⟨k+1,a2,b1,_,_,by omega,by omega,by go_num,rfl,rfl,rfl,rfl,j5.out,h5.out,i1,i7⟩))
      ·as_aux_lemma =>
         obtain rfl:k=n:=by omega
         obtain⟨n,rfl⟩:∃ n,n=k:=⟨_,rfl⟩
         have k8:Hid (a1<=1->b1<=1->(0<a1↔I≠-1)->(zaT S (n+1) i).length<=n->OkB S i):=fun h1 h2 h3 h4=>by
          refine⟨by rw[HN.out];exact i3.out,?_,?_,?_,?_⟩
          ·rw[HN.out,<- c7.out];exact h1
          ·rw[HN.out,<- f6.out];exact h2
          ·rw[HN.out,<- c7.out,i4.out];exact h3
          ·rw[HN.out];exact h4
         have d7:Hid (OkB S i->a1<=1/\b1<=1/\(0<a1↔I≠-1)/\(zaT S (n+1) i).length<=n):=fun h=>by
          obtain⟨_,h1,h2,h3,h4⟩:=h;rw[HN.out,<- c7.out] at h1;rw[HN.out,<- f6.out] at h2;rw[HN.out,<- c7.out,i4.out] at h3;rw[HN.out] at h4;exact⟨h1,h2,h3,h4⟩
         have D:Hid (Below w.heap.size w wr):=o2;clear c7 f6 i3;have v6:Hid (A=a1):=g0;have v7:Hid (B=b1):=g4;by_cases e1:1<a1
         ·have F:Hid (R=6):=a8.out fun h=>by have:=(d7.out h).1;omega
          have g1:decide ((1:Int)<A)=true:=decide_eq_true (by omega);clear g0 g4
          first
           |(go_wp2_with fail;go_ret;exact⟨by rw[F.out];rfl,D.out⟩)
           |(go_wp2_with fail;go_big_quiet (fail);go_wp2_with fail;go_ret;exact⟨by rw[F.out];rfl,Below.drewNs D.out _⟩)
         ·have g1:decide ((1:Int)<A)=false:=decide_eq_false (by omega);by_cases e2:1<b1
          ·have F:Hid (R=6):=a8.out fun h=>by have:=(d7.out h).2.1;omega
           have g2:decide ((1:Int)<B)=true:=decide_eq_true (by omega);clear g0 g4
           first
            |(go_wp2_with fail;go_ret;exact⟨by rw[F.out];rfl,D.out⟩)
            |(go_wp2_with fail;go_big_quiet (fail);go_wp2_with fail;go_ret;exact⟨by rw[F.out];rfl,Below.drewNs D.out _⟩)
          ·have g2:decide ((1:Int)<B)=false:=decide_eq_false (by omega);by_cases e5:a1=0
           ·have g3:decide ((0:Int)<A)=false:=decide_eq_false (by omega);clear g0 g4;by_cases e6:I = -1
            ·subst e6
             have i8:Hid ((zaT S (n+1) i).length<=n->∀ j,j<i+1->OkB S j):=fun h j hj=>by
              by_cases e:j=i
              ·subst e;exact k8.out (by omega) (by omega) ⟨fun h=>absurd h (by omega),fun h=>absurd rfl h⟩ h
              ·exact HO.out j (by omega)
             have BD:Hid (n<(zaT S (n+1) i).length->R=6):=fun h=>a8.out fun ho=>by have:=(d7.out ho).2.2.2;omega
             clear k8 d7 a8;obtain⟨ll,e0⟩:∃ l,(zaT S (n+1) i).length=l:=⟨_,rfl⟩;have i0:Hid ((zaT S (n+1) i).length=ll):=e0;rw[e0] at i8 BD;clear e0;by_cases l8:n<ll
             ·have F:Hid (R=6):=BD.out l8;have g5:decide ((n:Int)<(ll:Int))=true:=decide_eq_true (by omega)
              go_wp2_with fail
              go_region_held3 (fun b6=>b6.cell? ⟨w.heap.size,0,none⟩=some (.slice (some ⟨nb,no,none⟩) n c)/\b6.cell? ⟨V.heap.size,4,none⟩=some (.int .i64 (-1))) (go_keep) (first|(go_at_call 76;refine(yf (DL.out i _ ?nd) ?_);(case nd=>exact HS.out.below D.out.drew);rintro e w6 ⟨v,rfl,O,b5⟩;obtain⟨pa,pc,hv,_⟩:=zat b5;rw[i0.out] at hv;subst hv;have b4:Hid (Below w.heap.size w w6):=D.out.drew.trans (O.mono D.out.size);have m0:w6.cell? ⟨w.heap.size,0,none⟩=some (.slice (some ⟨nb,no,none⟩) n c):=(O.cell (by exact q0)).trans l0;have m2:w6.cell? ⟨V.heap.size,4,none⟩=some (.int .i64 (-1)):=(O.cell (by exact q1)).trans l2;have s6:w.heap.size<w6.heap.size:=ys q0 O.size;have s7:V.heap.size<w6.heap.size:=ys q1 O.size;clear O b5))
              go_wp2_with fail
              go_ret
              first|exact⟨by rw[F.out];rfl,b4.out⟩|exact⟨by rw[F.out];rfl,Below.drewNs b4.out _⟩
             ·have F:Hid _:=i8.out (by omega);have g5:decide ((n:Int)<(ll:Int))=false:=decide_eq_false (by omega)
              go_wp2_with fail
              go_region_held3 (fun b6=>b6.cell? ⟨w.heap.size,0,none⟩=some (.slice (some ⟨nb,no,none⟩) n c)/\b6.cell? ⟨V.heap.size,4,none⟩=some (.int .i64 (-1))) (go_keep) (first|(go_at_call 76;refine(yf (DL.out i _ ?nd) ?_);(case nd=>exact HS.out.below D.out.drew);rintro e w6 ⟨v,rfl,O,b5⟩;obtain⟨pa,pc,hv,_⟩:=zat b5;rw[i0.out] at hv;subst hv;have b4:Hid (Below w.heap.size w w6):=D.out.drew.trans (O.mono D.out.size);have m0:w6.cell? ⟨w.heap.size,0,none⟩=some (.slice (some ⟨nb,no,none⟩) n c):=(O.cell (by exact q0)).trans l0;have m2:w6.cell? ⟨V.heap.size,4,none⟩=some (.int .i64 (-1)):=(O.cell (by exact q1)).trans l2;have s6:w.heap.size<w6.heap.size:=ys q0 O.size;have s7:V.heap.size<w6.heap.size:=ys q1 O.size;clear O b5))
              go_wp2_with fail
              go_roundg (n-(i+1))
              case measure=>omega
              case rel=>first|exact⟨i+1,by omega,by omega,by go_num,b4,m0,F⟩|exact⟨i+1,by omega,by omega,by go_num,Below.drewNs b4.out _,m0,F⟩
            ·have F:Hid (R=6):=a8.out fun h=>by have:=(d7.out h).2.2.1.2 e6;omega
             have e7:(I != -1)=true:=by simpa using e6
             have e8:decide (I = -1)=false:=decide_eq_false e6;have e9:(I == -1)=false:=by simpa using e6
             first
              |(go_wp2_with fail;go_ret;exact⟨by rw[F.out];rfl,D.out⟩)
              |(go_wp2_with fail;go_big_quiet (fail);go_wp2_with fail;go_ret;exact⟨by rw[F.out];rfl,Below.drewNs D.out _⟩)
           ·have g3:decide ((0:Int)<A)=true:=decide_eq_true (by omega);clear g0 g4;by_cases e6:I = -1
            ·have F:Hid (R=6):=a8.out fun h=>(d7.out h).2.2.1.1 (by omega) e6;subst e6
             first
              |(go_wp2_with fail;go_ret;exact⟨by rw[F.out];rfl,D.out⟩)
              |(go_wp2_with fail;go_big_quiet (fail);go_wp2_with fail;go_ret;exact⟨by rw[F.out];rfl,Below.drewNs D.out _⟩)
            ·have e7:(I != -1)=true:=by simpa using e6
             have e8:decide (I = -1)=false:=decide_eq_false e6;have e9:(I == -1)=false:=by simpa using e6
             have i8:Hid ((zaT S (n+1) i).length<=n->∀ j,j<i+1->OkB S j):=fun h j hj=>by
              by_cases e:j=i
              ·subst e;exact k8.out (by omega) (by omega) ⟨fun _=>e6,fun _=>by omega⟩ h
              ·exact HO.out j (by omega)
             have BD:Hid (n<(zaT S (n+1) i).length->R=6):=fun h=>a8.out fun ho=>by have:=(d7.out ho).2.2.2;omega
             clear k8 d7 a8;obtain⟨ll,e0⟩:∃ l,(zaT S (n+1) i).length=l:=⟨_,rfl⟩;have i0:Hid ((zaT S (n+1) i).length=ll):=e0;rw[e0] at i8 BD;clear e0;by_cases l8:n<ll
             ·have F:Hid (R=6):=BD.out l8;have g5:decide ((n:Int)<(ll:Int))=true:=decide_eq_true (by omega)
              go_wp2_with fail
              go_region_held3 (fun b6=>b6.cell? ⟨w.heap.size,0,none⟩=some (.slice (some ⟨nb,no,none⟩) n c)/\b6.cell? ⟨V.heap.size,4,none⟩=some (.int .i64 I)) (go_keep) (first|(go_at_call 76;refine(yf (DL.out i _ ?nd) ?_);(case nd=>exact HS.out.below D.out.drew);rintro e w6 ⟨v,rfl,O,b5⟩;obtain⟨pa,pc,hv,_⟩:=zat b5;rw[i0.out] at hv;subst hv;have b4:Hid (Below w.heap.size w w6):=D.out.drew.trans (O.mono D.out.size);have m0:w6.cell? ⟨w.heap.size,0,none⟩=some (.slice (some ⟨nb,no,none⟩) n c):=(O.cell (by exact q0)).trans l0;have m2:w6.cell? ⟨V.heap.size,4,none⟩=some (.int .i64 I):=(O.cell (by exact q1)).trans l2;have s6:w.heap.size<w6.heap.size:=ys q0 O.size;have s7:V.heap.size<w6.heap.size:=ys q1 O.size;clear O b5))
              go_wp2_with fail
              go_ret
              first|exact⟨by rw[F.out];rfl,b4.out⟩|exact⟨by rw[F.out];rfl,Below.drewNs b4.out _⟩
             ·have F:Hid _:=i8.out (by omega);have g5:decide ((n:Int)<(ll:Int))=false:=decide_eq_false (by omega)
              go_wp2_with fail
              go_region_held3 (fun b6=>b6.cell? ⟨w.heap.size,0,none⟩=some (.slice (some ⟨nb,no,none⟩) n c)/\b6.cell? ⟨V.heap.size,4,none⟩=some (.int .i64 I)) (go_keep) (first|(go_at_call 76;refine(yf (DL.out i _ ?nd) ?_);(case nd=>exact HS.out.below D.out.drew);rintro e w6 ⟨v,rfl,O,b5⟩;obtain⟨pa,pc,hv,_⟩:=zat b5;rw[i0.out] at hv;subst hv;have b4:Hid (Below w.heap.size w w6):=D.out.drew.trans (O.mono D.out.size);have m0:w6.cell? ⟨w.heap.size,0,none⟩=some (.slice (some ⟨nb,no,none⟩) n c):=(O.cell (by exact q0)).trans l0;have m2:w6.cell? ⟨V.heap.size,4,none⟩=some (.int .i64 I):=(O.cell (by exact q1)).trans l2;have s6:w.heap.size<w6.heap.size:=ys q0 O.size;have s7:V.heap.size<w6.heap.size:=ys q1 O.size;clear O b5))
              go_wp2_with fail
              go_roundg (n-(i+1))
              case measure=>omega
              case rel=>first|exact⟨i+1,by omega,by omega,by go_num,b4,m0,F⟩|exact⟨i+1,by omega,by omega,by go_num,Below.drewNs b4.out _,m0,F⟩
    ·obtain rfl:i=n:=by omega
     have F:Hid (R=0):=r0.out HO.out
     go_wp2
     go_ret;exact⟨by rw[F.out];rfl,HB.out⟩
end Go.Proofs.YtgjfmepbphfjoaaGreat
