/-
  x
-/
import Derived.Test.YtgjfmepbphfjoaaGreatQ39
import Derived.Deep.RegionLaw
namespace Go.Proofs.YtgjfmepbphfjoaaGreat
set_option maxRecDepth 100000
set_option maxHeartbeats 4000000
set_option linter.unusedVariables false
open Go.RowKit Go.ChangeShapes Go.WideShapes
theorem zou{S S' : List Nd}(hl:S.length=S'.length)(h:∀ i,i<S.length->nd S i=nd S' i):S=S' :=
 List.ext_getElem hl fun i A w=>by
  have:=h i A
  rwa [zaJ A,zaJ w] at this
theorem zos(x y:Nd):x=y↔(x.u=y.u/\x.n=y.n/\x.t=y.t/\x.m=y.m/\x.p=y.p/\x.ks=y.ks/\x.h=y.h/\x.c=y.c):=by
 constructor
 ·rintro rfl;exact⟨rfl,rfl,rfl,rfl,rfl,rfl,rfl,rfl⟩
 ·obtain⟨a1,a2,a3,w,A,D,F,I⟩:=x;obtain⟨b1,b2,b3,J,M,O,T,U⟩:=y;rintro⟨rfl,rfl,rfl,rfl,rfl,rfl,rfl,rfl⟩;rfl
theorem zkA(x y:Nd)(ka A:Option Addr)(kc F:Nat)(w:World)(D:x.ks.length<=9223372036854775807)(h1:zaj w ka x.ks)(I:zaj w A y.ks) :
  Calls Tryz.prog 78 #[.agg #[.bool x.u,.int .i64 x.n,.int .i64 x.t,.int .i64 x.m,.int .i64 x.p,.slice ka x.ks.length kc,.int .i64 x.h,.bool x.c],.agg #[.bool y.u,.int .i64 y.n,.int .i64 y.t,.int .i64 y.m,.int .i64 y.p,.slice A y.ks.length F,.int .i64 y.h,.bool y.c]] w fun e w' => ∃ r:Bool,e=.returned (.bool r)/\Below w.heap.size w w' /\(r=true↔x=y):=by
 refine(zfU x.u y.u x.n y.n x.t y.t x.m y.m x.p y.p x.ks y.ks ka A kc F x.h y.h x.c y.c w D h1 I).mono ?_;rintro e w' ⟨rfl,J⟩;exact⟨_,rfl,J,by rw[decide_eq_true_iff,zos]⟩
theorem zgU(a V:Option Addr)(c c' : Nat)(S S' : List Nd)(w:World)(hN:S.length<=9223372036854775807)(hB:Big S)(h1:zae w a S)(Z:zae w V S') :
  Calls Tryz.prog 77 #[.slice a S.length c,.slice V S'.length c', .func (.func 78) #[] #[]] w fun e w' => ∃ r:Bool,e=.returned (.bool r)/\Below w.heap.size w w' /\(r=true↔S=S'):=by
 have eg:=enters_of Tryz.func78 (by kernel_rfl) rfl;by_cases hl:S.length=S'.length
 ·have E1:Hid ((∀ i,i<S.length->nd S i=nd S' i)->S=S'):=fun h=>zou hl h;have E2:Hid (∀ i,nd S i≠nd S' i->S≠S'):=fun i h e=>h (by rw[e]);have H1:Hid (zae w a S):=h1;have H2:Hid (zae w V S'):=Z;have HB:Hid (Big S):=hB;have HL:Hid (S'.length=S.length):=hl.symm;rw[<- hl];clear h1 Z hB hl;generalize hn:S.length=n at *;have HN:Hid _:=hn;clear hn
  go_enter Tryz.func77,Tryz.ntmps77
  go_wp2
  go_loopg [17] n (fun g s17 wr=>∃ k:Nat,k<=n/\n-k<=g/\s17=.int .i64 k/\Below w.heap.size w wr/\Hid (∀ i,i<k->nd S i=nd S' i))
  case atStart=>exact⟨0,by omega,by omega,rfl,yj _ _,fun i hi=>by omega⟩
  case round =>
   obtain⟨k,hk,hg,rfl,D,A⟩:=hrel;by_cases F:k<n
   ·have a7:(k:Int)<(n:Int):=by omega
    obtain⟨b,o,rfl,c0,c1,c2,c3,c4,⟨ka,kc,c5,J⟩,c6,c7⟩:=(H1.out.below D) k (by rw[HN.out];exact F);obtain⟨b', o', rfl,e0,e1,e2,e3,e4,⟨a4,a5,e5,M⟩,e6,e7⟩:=(H2.out.below D) k (by rw[HL.out];exact F);have a8:=ye _ _ c0;have a6:=ye _ _ e0;have d1:=fun o1 o2=>zkA (nd S k) (nd S' k) ka a4 kc a5 ((wr.alloc o1).alloc o2) (HB.out k (by rw[HN.out];exact F)) (J.below (zav _ _ _)) (M.below (zav _ _ _));have EK:=E2.out k;have O:Hid _:=EK
    have KK:Hid (nd S k=nd S' k->∀ i,i<k+1->nd S i=nd S' i):=fun h i hi=>by
     by_cases e:i=k
     ·subst e;exact h
     ·exact A.out i (by omega)
    clear EK J M;have D1:Hid _:=d1;clear d1;generalize nd S k=x at *;generalize nd S' k=y at *
    go_wp2_with fail
    refine(D1.out _ _).mono ?_;rintro e w3 ⟨r,rfl,I,hr⟩
    cases r with
    | true =>
     have U:Hid _:=hr.1 rfl;clear hr
     go_wp2
     go_roundg (n-(k+1))
     case measure=>omega
     case rel=>exact⟨k+1,by omega,by omega,by go_num,(D.trans ((zav _ _ _).mono D.size)).trans (I.mono (by simp;have:=D.size;omega)),KK.out U.out⟩
    | false =>
     have U:Hid (S≠S'):=O.out fun e=>by have:=hr.2 e;cases this
     clear hr
     go_wp2
     go_ret;exact⟨false,rfl,(D.trans ((zav _ _ _).mono D.size)).trans (I.mono (by simp;have:=D.size;omega)),⟨fun h=>(by cases h),fun h=>absurd h U.out⟩⟩
   ·have:k=n:=by omega
    subst this
    go_wp2
    go_ret;exact⟨true,rfl,D,⟨fun _=>E1.out A.out,fun _=>rfl⟩⟩
 ·have a9:¬ ((S.length:Int)=(S'.length:Int)):=by omega
  have T:Hid (S≠S'):=fun e=>hl (by rw[e]);clear h1 Z hB;generalize S.length=n at *;generalize S'.length=n' at *
  go_enter Tryz.func77,Tryz.ntmps77
  go_wp2
  go_ret;exact⟨false,rfl,yj _ _,⟨fun h=>(by cases h),fun h=>absurd h T.out⟩⟩
theorem zqH(a A:Option Addr)(c D:Nat)(S S' : List Nd)(w:World)(O:S.length<=9223372036854775807)(I:Big S)(h1:zae w a S)(F:zae w A S') :
  Calls Tryz.prog 30 #[.agg #[.slice a S.length c],.agg #[.slice A S'.length D]] w fun e w' => ∃ r:Bool,e=.returned (.bool r)/\Below w.heap.size w w' /\(r=true↔S=S'):=by
 have J:Hid _:=fun o1 U=>zgU a A c D S S' ((w.alloc o1).alloc U) O I (h1.below (zav _ _ _)) (F.below (zav _ _ _));clear h1 F I;generalize S.length=n at *;generalize S'.length=V at *
 go_enter Tryz.func30,Tryz.ntmps30
 go_wp2_with (go_at_call 77;refine(J.out _ _).mono ?_;rintro e Z ⟨r,rfl,T,hr⟩;have M:Hid _:=hr;clear hr)
 go_ret;exact⟨r,rfl,(zav _ _ _).trans (T.mono (by simp;omega)),M.out⟩
theorem zoT(a a' : Option Addr)(c c' : Nat)(S S' : List Nd)(w:World)(hN:S.length<=9223372036854775807)(hB:Big S)(h1:zae w a S)(h2:zae w a' S') :
  Calls Tryz.prog 33 #[.agg #[.slice a S.length c],.agg #[.slice a' S'.length c']] w fun e w' => ∃ r:Bool,e=.returned (.bool r)/\Below w.heap.size w w' /\(r=true↔S=S'):=by
 by_cases hl:S.length=S'.length
 ·have E1:Hid ((∀ i,i<S.length->nd S i=nd S' i)->S=S'):=fun h=>zou hl h;have E2:Hid (∀ i,nd S i≠nd S' i->S≠S'):=fun i h e=>h (by rw[e]);have H1:Hid (zae w a S):=h1;have H2:Hid (zae w a' S'):=h2;have HB:Hid (Big S):=hB;have HL:Hid (S'.length=S.length):=hl.symm;rw[<- hl];clear h1 h2 hB hl;generalize hn:S.length=n at *;have HN:Hid _:=hn;clear hn
  go_enter Tryz.func33,Tryz.ntmps33
  go_wp2
  go_loopg [18] n (fun g s18 wr=>∃ k:Nat,k<=n/\n-k<=g/\s18=.int .i64 k/\Hid (Below (w.heap.size+1+1) ((w.alloc (.cells #[.slice a n c] 24)).alloc (.cells #[.slice a' n c'] 24)) wr)/\Hid (∀ i,i<k->nd S i=nd S' i))
  case atStart=>exact⟨0,by omega,by omega,rfl,yj _ _,fun i hi=>by omega⟩
  case round =>
   obtain⟨k,hk,hg,rfl,M,A⟩:=hrel;have l0:wr.cell? ⟨w.heap.size,0,none⟩=some (.slice a n c):=(M.out.cell (by simp;omega)).trans (by go_simp);have l1:wr.cell? ⟨w.heap.size+1,0,none⟩=some (.slice a' n c'):=(M.out.cell (by simp)).trans (by go_simp);have r0:=ye _ _ l0;have r1:=ye _ _ l1;have HW:Hid (Below w.heap.size w wr):=(zav _ _ _).trans (M.out.mono (by omega));have a7:=M.out.size;simp only[yk] at a7;by_cases U:k<n
   ·have b5:(k:Int)<(n:Int):=by omega
    obtain⟨b,o,rfl,c0,c1,c2,c3,c4,⟨ka,kc,c5,a5⟩,c6,c7⟩:=(H1.out.below HW.out) k (by rw[HN.out];exact U);obtain⟨b', o', rfl,e0,e1,e2,e3,e4,⟨a8,a9,e5,a6⟩,e6,e7⟩:=(H2.out.below HW.out) k (by rw[HL.out];exact U);have b6:=ye _ _ c0;have b4:=ye _ _ e0;have d1:=fun o1 O=>zdo ka a8 kc a9 (nd S k).ks (nd S' k).ks ((wr.alloc o1).alloc O) (HB.out k (by rw[HN.out];exact U)) (a5.below (zav _ _ _)) (a6.below (zav _ _ _));have I:Hid _:=E2.out k
    have KK:Hid (nd S k=nd S' k->∀ i,i<k+1->nd S i=nd S' i):=fun h i hi=>by
     by_cases e:i=k
     ·subst e;exact h
     ·exact A.out i (by omega)
    have D:Hid (∀ o1 O,Below w.heap.size w ((wr.alloc o1).alloc O)):=fun o1 O=>HW.out.trans ((zav _ _ _).mono HW.out.size);have T:Hid (∀ o1 O w3,Below ((wr.alloc o1).alloc O).heap.size ((wr.alloc o1).alloc O) w3->Below (w.heap.size+1+1) ((w.alloc (.cells #[.slice (some ⟨b,o,none⟩) n c] 24)).alloc (.cells #[.slice (some ⟨b', o', none⟩) n c'] 24)) w3):=fun o1 O w3 J=>(M.out.trans ((zav wr o1 O).mono (by omega))).trans (J.mono (by simp;omega));clear a5 a6;generalize nd S k=x at *;generalize nd S' k=y at *;obtain⟨xu,xn,xt,xm,xp,V,xh,xc⟩:=x;obtain⟨yu,yn,yt,ym,yp,Z,yh,yc⟩:=y;dsimp only at *;generalize hr:decide (V=Z)=r at *;have HR:Hid (r=true↔V=Z):=by show _↔_;rw[<- hr];exact decide_eq_true_iff
    have D1:Hid _:=d1;clear hr d1;generalize V.length=XL at *;generalize Z.length=YL at *;by_cases eu:xu=yu
    ·subst eu;by_cases en:xn=yn
     ·subst en;by_cases et:xt=yt
      ·subst et;by_cases em:xm=ym
       ·subst em;by_cases ep:xp=yp
        ·subst ep;by_cases eh:xh=yh
         ·subst eh;by_cases ec:xc=yc
          ·subst ec
           cases r with
           | true =>
            have HT:Hid (∀ i,i<k+1->nd S i=nd S' i):=KK.out (by rw[HR.out.1 rfl])
            go_wp2_with (go_at_call 19;refine(D1.out _ _).mono ?_;rintro e w3 ⟨rfl,J⟩)
            go_roundg (n-(k+1))
            case measure=>omega
            case rel=>exact⟨k+1,by omega,by omega,by go_num,T.out _ _ _ J,HT⟩
           | false =>
            have F:Hid (S≠S'):=I.out (fun e=>by have h:=HR.out.2 (congrArg Nd.ks e);cases h)
            go_wp2_with (go_at_call 19;refine(D1.out _ _).mono ?_;rintro e w3 ⟨rfl,J⟩)
            go_ret
            first|exact⟨false,rfl,(zav _ _ _).trans ((T.out _ _ _ J).mono (by omega)),⟨fun h=>(by cases h),fun h=>absurd h F.out⟩⟩|exact Or.inl ⟨rfl,(zav _ _ _).trans ((T.out _ _ _ J).mono (by omega)),F.out⟩
          ·have F:Hid (S≠S'):=I.out (fun e=>ec (congrArg Nd.c e))
           cases xc <;> cases yc
           ·exact absurd rfl ec
           ·go_wp2
            go_ret
            first|exact⟨false,rfl,D.out _ _,⟨fun h=>(by cases h),fun h=>absurd h F.out⟩⟩|exact Or.inl ⟨rfl,D.out _ _,F.out⟩
           ·go_wp2
            go_ret
            first|exact⟨false,rfl,D.out _ _,⟨fun h=>(by cases h),fun h=>absurd h F.out⟩⟩|exact Or.inl ⟨rfl,D.out _ _,F.out⟩
           ·exact absurd rfl ec
         ·have F:Hid (S≠S'):=I.out (fun e=>eh (congrArg Nd.h e));have bh:(xh == yh)=false:=beq_eq_false_iff_ne.2 eh
          go_wp2
          go_ret
          first|exact⟨false,rfl,D.out _ _,⟨fun h=>(by cases h),fun h=>absurd h F.out⟩⟩|exact Or.inl ⟨rfl,D.out _ _,F.out⟩
        ·have F:Hid (S≠S'):=I.out (fun e=>ep (congrArg Nd.p e));have bp:(xp == yp)=false:=beq_eq_false_iff_ne.2 ep
         go_wp2
         go_ret
         first|exact⟨false,rfl,D.out _ _,⟨fun h=>(by cases h),fun h=>absurd h F.out⟩⟩|exact Or.inl ⟨rfl,D.out _ _,F.out⟩
       ·have F:Hid (S≠S'):=I.out (fun e=>em (congrArg Nd.m e));have bm:(xm == ym)=false:=beq_eq_false_iff_ne.2 em
        go_wp2
        go_ret
        first|exact⟨false,rfl,D.out _ _,⟨fun h=>(by cases h),fun h=>absurd h F.out⟩⟩|exact Or.inl ⟨rfl,D.out _ _,F.out⟩
      ·have F:Hid (S≠S'):=I.out (fun e=>et (congrArg Nd.t e));have bt:(xt == yt)=false:=beq_eq_false_iff_ne.2 et
       go_wp2
       go_ret
       first|exact⟨false,rfl,D.out _ _,⟨fun h=>(by cases h),fun h=>absurd h F.out⟩⟩|exact Or.inl ⟨rfl,D.out _ _,F.out⟩
     ·have F:Hid (S≠S'):=I.out (fun e=>en (congrArg Nd.n e));have bn:(xn == yn)=false:=beq_eq_false_iff_ne.2 en
      go_wp2
      go_ret
      first|exact⟨false,rfl,D.out _ _,⟨fun h=>(by cases h),fun h=>absurd h F.out⟩⟩|exact Or.inl ⟨rfl,D.out _ _,F.out⟩
    ·have F:Hid (S≠S'):=I.out (fun e=>eu (congrArg Nd.u e))
     cases xu <;> cases yu
     ·exact absurd rfl eu
     ·go_wp2
      go_ret
      first|exact⟨false,rfl,D.out _ _,⟨fun h=>(by cases h),fun h=>absurd h F.out⟩⟩|exact Or.inl ⟨rfl,D.out _ _,F.out⟩
     ·go_wp2
      go_ret
      first|exact⟨false,rfl,D.out _ _,⟨fun h=>(by cases h),fun h=>absurd h F.out⟩⟩|exact Or.inl ⟨rfl,D.out _ _,F.out⟩
     ·exact absurd rfl eu
   ·have:k=n:=by omega
    subst this
    go_wp2
    go_ret
    first|exact⟨true,rfl,HW.out,⟨fun _=>E1.out A.out,fun _=>rfl⟩⟩|exact Or.inr ⟨rfl,HW.out,E1.out A.out⟩
 ·have b7:¬ ((S.length:Int)=(S'.length:Int)):=by omega
  have a4:Hid (S≠S'):=fun e=>hl (by rw[e]);clear h1 h2 hB;generalize S.length=n at *;generalize S'.length=n' at *
  go_enter Tryz.func33,Tryz.ntmps33
  go_wp2
  go_ret
  first|exact⟨false,rfl,zav _ _ _,⟨fun h=>(by cases h),fun h=>absurd h a4.out⟩⟩|exact Or.inl ⟨rfl,zav _ _ _,a4.out⟩
def zra:Nat->Value
 | 0=>.bool false
 | 4=>.int .i64 (-1)
 | 5=>.slice none 0 0
 | 6=>.int .i64 (-1)
 | 7=>.bool false
 | _=>.int .i64 0
def Good(X:List Value)(j:Nat):Prop:=∀ m,m<j*8->X[m]?=some (zra (m % 8))
theorem zoI(m:Nat):(zra m).oneCell' = true:=by
 unfold zra
 split <;> rfl
theorem Good.copy{X:List Value}{j m:Nat}(h:Good X j)(F:m<=j)(hl:(j+m)*8<=X.length):Good (X.take (j*8)++X.take (m*8)++X.drop (j*8+(X.take (m*8)).length)) (j+m):=by
 have w:(X.take (j*8)).length=j*8:=by rw[List.length_take];omega
 have A:(X.take (m*8)).length=m*8:=by rw[List.length_take];omega
 intro i D;rw[List.append_assoc];by_cases h1:i<j*8
 ·rw[List.getElem?_append_left (by rw[w];exact h1),List.getElem?_take,yd h1];exact h i h1
 ·rw[List.getElem?_append_right (by rw[w];omega),w,List.getElem?_append_left (by rw[A];omega),List.getElem?_take,yd (by omega),h _ (by omega)]
  congr 2
  omega
theorem Good.one{X Y:List Value}(w:Good Y 1)(hl:Y.length=8):Good (X.take 0++Y++X.drop (0+Y.length)) 1:=by
 intro i A;rw[List.append_assoc,List.take_zero,List.nil_append,List.getElem?_append_left (by omega)];exact w i A
theorem zpQ{w:World}{g n:Nat}{X:List Value}(hg:w.heap[g]?=some (.cells X.toArray 47 (0,0)))(I:Good X n):zae w (some ⟨g,0,none⟩) (List.replicate n zaL):=fun i J=>by
 have D:i<n:=by simpa using J
 have e:nd (List.replicate n zaL) i=zaL:=by unfold nd;simp[List.getD,D]
 refine⟨g,0,rfl,?_⟩;rw[e,yv]
 have A:∀ j,j<8->w.cell? ⟨g,i*8+j,none⟩=some (zra j):=fun j F=>by
  have:=I (i*8+j) (by omega);rw[show (i*8+j) % 8=j by omega] at this;simp only[World.cell?,hg];simpa using this
 exact⟨A 0 (by omega),A 1 (by omega),A 2 (by omega),A 3 (by omega),A 4 (by omega),⟨none,0,A 5 (by omega),fun j F=>absurd F (yr _)⟩,A 6 (by omega),A 7 (by omega)⟩
theorem mul_one(n:Nat)(hn:n<=24)(w:World) :
  Calls Tryz.prog 34 #[.int .u64 1,.int .u64 n] w fun e w' => e=.returned (.tuple #[.int .u64 0,.int .u64 n])/\w' = w:=by
 have h:n=0\/n=1\/n=2\/n=3\/n=4\/n=5\/n=6\/n=7\/n=8\/n=9\/n=10\/n=11\/n=12\/n=13\/n=14\/n=15\/n=16\/n=17\/n=18\/n=19\/n=20\/n=21\/n=22\/n=23\/n=24:=by omega
 rcases h with rfl|rfl|rfl|rfl|rfl|rfl|rfl|rfl|rfl|rfl|rfl|rfl|rfl|rfl|rfl|rfl|rfl|rfl|rfl|rfl|rfl|rfl|rfl|rfl|rfl
 all_goals
  go_enter Tryz.func34,Tryz.ntmps34
  go_wp2
  refine yq ?_ rfl ⟨rfl,rfl⟩;simp[results,Tryz.results34,go_sem]
  kernel_rfl
def zsi(k:Nat):List Value:=(List.range (k*8)).map fun j=>zra (j % 8)
theorem zfq(k:Nat):(zsi k).length=k*8:=by simp[zsi]
theorem zji(k:Nat):Good (zsi k) k:=fun m w=>by
 unfold zsi;rw[List.getElem?_map,List.getElem?_range w];rfl
theorem zmU(g n j:Nat)(D:j<n):∀ W,(Instr.slice 22 (.slice (some ⟨g,0,none⟩) n n) (some (.int .i64 (j:Int))) none none).run Tryz.prog W=.ok (.slice (some ⟨g,j*8,none⟩) (n-j) (n-j)) W:=fun W=>by
 have h1:¬ ((n:Int)=(j:Int)):=by omega
 have w:(j:Int)<=(n:Int):=by omega
 have A:(0:Int)<=(j:Int):=by omega
 go_simp
 try omega
theorem zmV(g n j:Nat)(D:j<n):∀ W,(Instr.slice 22 (.slice (some ⟨g,0,none⟩) n n) none (some (.int .i64 (j:Int))) none).run Tryz.prog W=.ok (.slice (some ⟨g,0,none⟩) j n) W:=fun W=>by
 have h1:¬ ((n:Int)=(j:Int)):=by omega
 have w:(j:Int)<=(n:Int):=by omega
 have A:(0:Int)<=(j:Int):=by omega
 go_simp
 try omega
theorem zpS{W:World}{g:Nat}{X:List Value}(h:W.heap[g]?=some (.cells X.toArray 47 (0,0)))(k:Nat):∀ j v,(X.take k)[j]?=some v->W.cell? ((⟨g,0,none⟩:Addr).add j)=some v:=fun j v w=>by
 rw[Addr.add_lit,yv];rw[List.getElem?_take] at w
 split at w
 ·simp only[World.cell?,h];simpa using w
 ·cases w
theorem zpR{X:List Value}{j m n:Nat}(h:Good X j)(I:m<=j)(hl:X.length=n*8)(F:j<=n):∀ v ∈ X.take (m*8),v.oneCell' = true:=fun v D=>by
 obtain⟨i,A,e⟩:=List.getElem_of_mem D;rw[List.length_take] at A;have w:=h i (by omega);rw[List.getElem_take] at e;rw[List.getElem?_eq_getElem (by omega),e] at w;cases w;exact zoI _
theorem zmM(n xb xc:Nat)(hn:n<=24)(w:World)(hx:∀ m,m<8->w.cell? ⟨xb,m,none⟩=some (zra m)) :
  Calls Tryz.prog 15 #[.slice (some ⟨xb,0,none⟩) 1 xc,.int .i64 n] w fun e w' => ∃ g,e=.returned (.slice (some ⟨g,0,none⟩) n n)/\Below w.heap.size w w' /\ zae w' (some ⟨g,0,none⟩) (List.replicate n zaL):=by
 have HX:Hid _:=hx;clear hx;obtain⟨i0,a6,e7,a9,e8⟩:=info_parts zoh;have e6:(n:Int)<=24:=by omega
 have MK:=zja n hn;obtain⟨F,a8⟩:∃ F,F=Nat.min 1 n:=⟨_,rfl⟩
 have M:F<=n/\F<=1/\(0<n->F=1):=by
  have:Nat.min 1 n=min 1 n:=rfl;omega
 obtain⟨c6,e0,c7⟩:=M;have b7:Hid (F=Nat.min 1 n):=a8;clear a8
 go_enter Tryz.func15,Tryz.ntmps15
 go_wp2_with (first
  |(go_at_call 34;refine(mul_one n hn _).mono ?_;rintro e A ⟨rfl,rfl⟩)
  |(refine zdW rfl (.tmp 31) (.tmp 32) 22 22 rfl 47 i0 Tryz.underlying22 a6 A.heap.size 0 n n ⟨xb,0,none⟩ 1 xc F ?hd ?hs (madeCells zfz (n*8)).toList 47 ?hg (zsi F) b7.out ?hl ?hsrc ?hfit ?h1 ?_))
 case hd=>rfl
 case hs=>rfl
 case hg=>have:=heap_alloc_new A (.cells (madeCells zfz (n*8)) 47);simpa using this
 case hl=>rw[zfq,a9]
 case hsrc =>
  intro j v hj
  have b9:j<F*8:=by
   have:=(List.getElem?_eq_some_iff.1 hj).1;rw[zfq] at this;exact this
  rw[zji F j b9] at hj;cases hj;rw[Addr.add_lit,show j % 8=j by omega,yv];exact((yj _ _).alloc (yi _) _).cell (ye _ _ (HX.out j (by omega))) |>.trans (HX.out j (by omega))
 case hfit=>rw[zfq];simp[size_madeCells];omega
 case h1 =>
  intro v hv;unfold zsi at hv;obtain⟨j,_,rfl⟩:=List.mem_map.1 hv;exact zoI _
 intro w2 a4 V
 have G2:Hid (∃ X:List Value,w2.heap[A.heap.size]?=some (.cells X.toArray 47 (0,0))/\X.length=n*8/\Good X F):=by
  refine⟨_,a4,?_,fun m hm=>?_⟩
  ·simp[zfq,size_madeCells];omega
  ·rw[List.getElem?_append_left (by rw[zfq];exact hm)];exact zji F m hm
 have O:Hid (Below A.heap.size A w2):=V _ _ ((yj _ _).alloc (yi _) _) (yi _);clear a4 V MK
 go_wp2
 go_loopg [8] n (fun gg s8 wr=>∃ j:Nat,j<=n/\(0<n->1<=j)/\n-j<=gg/\s8=.int .i64 j/\Hid (Below A.heap.size A wr)/\Hid (∃ X:List Value,wr.heap[A.heap.size]?=some (.cells X.toArray 47 (0,0))/\X.length=n*8/\Good X j))
 case atStart=>exact⟨F,c6,fun h=>by rw[c7 h];exact yi _,by omega,rfl,O,G2⟩
 case round =>
  clear O G2;obtain⟨j,hj,b8,d7,rfl,HB,G⟩:=hrel;by_cases a7:j<n
  ·have c8:(j:Int)<(n:Int):=by omega
   have d8:(0:Int)<=(j:Int):=by omega
   obtain⟨X,U,D,I⟩:=G.out;obtain⟨m,hm⟩:∃ m,m=Nat.min j (n-j):=⟨_,rfl⟩
   have M:m<=j/\m<=n-j/\0<m:=by
    have:Nat.min j (n-j)=min j (n-j):=rfl;have:=b8 (by omega);omega
   obtain⟨J,c9,d6⟩:=M;have HM:Hid (m=Nat.min j (n-j)):=hm;have T:Hid _:=U;have HG:Hid _:=I;clear hm G U I;have SF:=zmU A.heap.size n j a7;have SU:=zmV A.heap.size n j a7
   go_wp2_with fail
   have L1:(X.take (m*8)).length=m*i0.size:=by rw[List.length_take,a9,D];omega
   have L2:j*8+(X.take (m*8)).length<=X.length:=by rw[List.length_take,D];omega
   have L3:Hid _:=zpR HG.out J D hj;have L4:Hid (∀ i v,(X.take (m*8))[i]?=some v->wr.cell? ((⟨A.heap.size,0,none⟩:Addr).add i)=some v):=zpS T.out _;have L5:Hid (m*8<=X.length):=(by rw[D];omega:m*8<=X.length);generalize hY:X.take (m*8)=Y at *;have HY:Hid _:=hY;clear hY
   have d9:IntKind.i64.wrap ((j:Int)+(m:Int))=(j:Int)+(m:Int):=by
    rw[IntKind.wrap_i64];omega
   go_region_law (refine zhb rfl (.tmp 41) (.tmp 44) 22 22 rfl 47 i0 Tryz.underlying22 a6 A.heap.size (j*8) (n-j) (n-j) ⟨A.heap.size,0,none⟩ j n m (by go_simp) (by go_simp) X 47 T.out Y HM.out L1 L4.out L2 L3.out ?_;intro w4 a5 Z;have b6:Hid _:=a5;have b5:Hid (Below A.heap.size A w4):=Z _ _ HB.out.drew (yi _);clear a5 Z)
   go_wp2
   go_roundg (n-(j+m))
   case measure=>omega
   case rel =>
    refine⟨j+m,by omega,fun _=>by omega,by omega,?_,b5,(show Hid _ from ⟨_,b6.out,?_,?_⟩)⟩
    ·first|go_num|(simp;done)
    ·have h5:=L5.out;have h6:=HY.out;subst h6;simp only[List.length_append,List.length_take,List.length_drop];omega
    ·have h6:=HY.out;subst h6;exact Good.copy HG.out J (by rw[D];omega)
  ·have:j=n:=by omega
   subst this;obtain⟨X,U,D,I⟩:=G.out;have b4:Hid (zae wr (some ⟨A.heap.size,0,none⟩) (List.replicate j zaL)):=zpQ U I;clear G U I
   go_wp2
   go_ret;exact⟨_,rfl,HB.out,b4.out⟩
theorem zha{P:Program}(w:World)(J O T elem:TypeId)(i:TypeInfo)(d a:Option Addr)(A F D I:Nat)(M:P.underlying J=some (.slice elem))(hq:P.info? elem=some i)(hn:Nat.min D A=0) :
  (Builtin.copy_ #[J,O] T #[.slice d A F,.slice a D I]).run P w=.ok (goInt 0) w:=by
 have hl:∀ (x:Addr),(loadCells x 0).run P w=.ok #[] w:=fun x=>by simpa using run_loadCells_list (P:=P) w x [] (by simp)
 cases d <;> cases a <;> simp[Builtin.copy_,run_underlying M,Builtin.lenOf,Builtin.firstCells,sizeOf,typeInfo,hq,hn,storeCells,hl]
theorem zfY{P:Program}{w:World}{V:Array Oper}{rest:List Oper}{o:Oper}{a:Act}{Q:Exit->Act->World->Prop}(O:o.guard=none)(d s:Operand)(dT sT:TypeId)
  (ho:o.op=.call { callee:=.builtin .copy,args:=#[d,s],argTypes:=#[dT,sT] }) (elem:TypeId) (i:TypeInfo) (size:Nat) (hu:P.underlying dT=some (.slice elem)) (hi:P.info? elem=some i) (hz:i.size=size)
  (g n A:Nat) (Z:Option Addr) (F:Nat) (hd:a.eval d=.slice (some ⟨g,0,none⟩) n A) (hs:a.eval s=.slice Z n F)
  (I:List Value) (t:TypeId) (hg:w.heap[g]?=some (.cells I.toArray t (0,0))) (J:List Value) (hl:J.length=n*size) (D:I.length=n*size) (T:Z=none->n=0)
  (hsrc:∀ M,Z=some M->∀ j v,J[j]?=some v->w.cell? (M.add j)=some v) (h1:∀ v ∈ J,v.oneCell' = true)
  (h:∀ w', Hid (w'.heap[g]?=some (.cells J.toArray t (0,0)))->Hid (∀ B w0,Below B w0 w->B<=g->Below B w0 w')->wpList P V Q rest (a.put o.dst (goInt n)) w'):wpList P V Q (o :: rest) a w:=by
 subst hz;by_cases h0:n=0
 ·subst h0;rw[Nat.zero_mul] at hl D;obtain rfl:J=[]:=List.eq_nil_of_length_eq_zero hl;obtain rfl:I=[]:=List.eq_nil_of_length_eq_zero D;refine wpList_plain O fun K hK=>?_;have U:=zha (P:=P) w dT sT o.type elem i (some ⟨g,0,none⟩) Z 0 A 0 F hu hi rfl;unfold Oper.wp;simp[execOp,ho,resolve,invoke,builtin,hd,hs,U,Result.andThen];exact hK _ _ (h w hg (fun _ _ hb _=>hb))
 ·cases Z with
  | none=>exact absurd (T rfl) h0
  | some M =>
   refine zdW O d s dT sT ho elem i hu hi g 0 n A M n F n hd hs I t hg J (Nat.min_self n).symm hl (hsrc M rfl) (by omega) h1 (fun w' hw hb=>h w' ?_ hb);show _=_;rw[hw];simp[hl,D]
end Go.Proofs.YtgjfmepbphfjoaaGreat
