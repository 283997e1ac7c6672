/-
  x
-/
import Derived.Test.YtgjfmepbphfjoaaGreatQ18
namespace Go.Proofs.YtgjfmepbphfjoaaGreat
set_option maxRecDepth 100000
set_option maxHeartbeats 4000000
set_option linter.unusedVariables false
open Go.RowKit
def zsa(w:World)(b o:Nat)(x:Cl):Prop :=
 w.cell? ⟨b,o,none⟩=some (.int .i64 x.n)/\∃ ka kc,w.cell? ⟨b,o+1,none⟩=some (.slice ka x.ks.length kc)/\zaj w ka x.ks
theorem zsa.below{w w' : World}{b o:Nat}{x:Cl}(h:zsa w b o x)(A:Below w.heap.size w w'):zsa w' b o x:=by
 obtain⟨c0,ka,kc,c1,D⟩:=h;exact⟨zac c0 A,ka,kc,zac c1 A,D.below A⟩
def zaY(w:World)(a:Option Addr)(G:List Cl):Prop :=
 ∀ i,i<G.length->∃ b o,a=some ⟨b,o,none⟩/\zsa w b (o+i*2) (cl G i)
theorem zaY.below{w w' : World}{a:Option Addr}{G:List Cl}(h:zaY w a G)(A:Below w.heap.size w w'):zaY w' a G:=fun i D=>by
 obtain⟨b,o,e,hn⟩:=h i D;exact⟨b,o,e,hn.below A⟩
def zpp(G:List Cl):Prop:=∀ i,i<G.length->(cl G i).ks.length<=9223372036854775807
def zbQ(G:List Cl):Int:=if 24<G.length then 1 else cellsE G.length G
theorem zmo(x:Int)(m b:Nat)(w:World)(F:m<=24)(D:w.cell? ⟨b,0,none⟩=some (.int .i64 (m:Int))) :
  Calls Tryz.prog 99 #[.int .i64 x,.pointer (some ⟨b,0,none⟩)] w fun e w' => e=.returned (.bool (!decide (0<=x/\x<=(m:Int)-1)))/\w' = w:=by
 have A:=zbf x 0 ((m:Int)-1);generalize decide (0<=x/\x<=(m:Int)-1)=r at A
 go_enter Tryz.func99,Tryz.ntmps99
 go_wp2_with (go_at_call 54;refine(A _).mono ?_;rintro e w' ⟨rfl,rfl⟩)
 go_ret;exact⟨rfl,rfl⟩
theorem zhM(x:Cl)(ka:Option Addr)(kc m:Nat)(w:World)(hm:m<=24)(D:x.ks.length<=9223372036854775807)(A:zaj w ka x.ks) :
  Calls Tryz.prog 53 #[.agg #[.int .i64 x.n,.slice ka x.ks.length kc],.int .i64 (m:Int)] w fun e w' => e=.returned (.int .i64 (zdh m x))/\Below w.heap.size w w' := by
 unfold zdh;by_cases h1:x.n < -1000000\/1000000<x.n
 ·rw[yd h1];have F:=fun W=>zfx x.n (-1000000) 1000000 W h1;clear A h1;generalize x.ks.length=l at *;generalize x.n=V at *
  go_enter Tryz.func53,Tryz.ntmps53
  go_wp2_with (go_at_call 54;refine(F _).mono ?_;rintro e w' ⟨rfl,rfl⟩)
  go_ret;exact⟨rfl,zai _ _ _⟩
 ·rw[ya h1];have F:=fun W=>zdz x.n (-1000000) 1000000 W (by omega) (by omega);by_cases I:8<x.ks.length
  ·rw[yd I];clear A h1;generalize x.ks.length=l at *;generalize x.n=V at *;have h3:(8:Int)<(l:Int):=by omega
   go_enter Tryz.func53,Tryz.ntmps53
   go_wp2_with (go_at_call 54;refine(F _).mono ?_;rintro e w' ⟨rfl,rfl⟩)
   go_ret;exact⟨rfl,zai _ _ _⟩
  ·rw[ya I]
   have T:∀ M:World,M.cell? ⟨w.heap.size+1,0,none⟩=some (.int .i64 (m:Int))->znm 99 #[.pointer (some ⟨w.heap.size+1,0,none⟩)] (fun k=>!decide (0<=k/\k<=(m:Int)-1)) M:=fun M h1 y w2 J =>
    (zmo y m (w.heap.size+1) w2 hm (zac h1 J)).mono (fun e w3 h=>⟨h.1,by rw[h.2];exact yj _ _⟩)
   have d3:=fun(W:World) (hk:zaj W ka x.ks) (hc:W.cell? ⟨w.heap.size+1,0,none⟩=some (.int .i64 (m:Int)))=>zdQ 99 #[.pointer (some ⟨w.heap.size+1,0,none⟩)] (fun k=>!decide (0<=k/\k<=(m:Int)-1)) ka kc x.ks W D hk (enters_of Tryz.func99 (by kernel_rfl) rfl) (T W hc);have K2:Hid (∀ o1 U,zaj ((w.alloc o1).alloc U) ka x.ks):=fun o1 U=>A.below (zai _ _ _);have O:Hid _:=d3;have Z:Hid (∀ o1,((w.alloc o1).alloc (.cells #[.int .i64 (m:Int)] 3)).cell? ⟨w.heap.size+1,0,none⟩=some (.int .i64 (m:Int))):=fun o1=>zaI w _ _ 0 _ rfl;clear A T d3 h1;generalize (x.ks.any fun k=>!decide (0<=k/\k<=(m:Int)-1))=b3 at *;obtain⟨l,hl⟩:∃ l,x.ks.length=l:=⟨_,rfl⟩;rw[hl] at O I D |-;clear hl;generalize x.n=V at *;have h3:¬ (8:Int)<(l:Int):=by omega
   cases b3
   all_goals
    go_enter Tryz.func53,Tryz.ntmps53
    go_wp2_with (first|(go_at_call 54;refine(F _).mono ?_;rintro e w' ⟨rfl,rfl⟩)|(go_at_call 100;refine(O.out _ (K2.out _ _) (Z.out _)).mono ?_;rintro e w' ⟨rfl,hb⟩))
    go_ret;exact⟨rfl,(zai _ _ _).trans (hb.mono (by simp;omega))⟩
theorem znI{G:List Cl}{k:Nat}(h:k<G.length):G.drop k=cl G k :: G.drop (k+1):=by
 rw[zfB h];exact List.drop_eq_getElem_cons h
theorem zlT(a:Option Addr)(c:Nat)(G:List Cl)(w:World)(hN:G.length<=9223372036854775807)(hB:zpp G)(hS:zaY w a G) :
  Calls Tryz.prog 21 #[.agg #[.slice a G.length c]] w fun e w' => e=.returned (.int .i64 (zbQ G))/\Below w.heap.size w w' := by
 unfold zbQ;by_cases I:24<G.length
 ·rw[yd I];generalize G.length=n at *;clear hS hB;have O:(24:Int)<(n:Int):=by omega
  go_enter Tryz.func21,Tryz.ntmps21
  go_wp2
  go_ret;exact⟨rfl,zab _ _⟩
 ·rw[ya I];have HS:Hid (zaY w a G):=hS;have Z:Hid (∀ i,i<G.length->∀ ka kc W,zaj W ka (cl G i).ks->Calls _ _ _ _ _):=fun i hi ka kc W hW=>zhM (cl G i) ka kc G.length W (by omega) (hB i hi) hW;have DR:Hid (∀ k,k<G.length->G.drop k=cl G k :: G.drop (k+1)):=fun k hk=>znI hk;have DN:Hid (G.drop G.length=[]):=List.drop_length;have E0:Hid (cellsE G.length G=cellsE G.length (G.drop 0)):=rfl;clear hS hB;obtain⟨F,hR⟩:∃ r,cellsE G.length G=r:=⟨_,rfl⟩;rw[hR] at E0 |-;clear hR;obtain⟨n,hn⟩:∃ n,G.length=n:=⟨_,rfl⟩;have HN:Hid (G.length=n):=hn;rw[hn] at hN I Z DR DN E0 |-;clear hn;have O:¬ (24:Int)<(n:Int):=by omega
  go_enter Tryz.func21,Tryz.ntmps21
  go_wp2_with fail
  go_loopg [13] n (fun g s13 wr=>∃ k:Nat,k<=n/\n-k<=g/\s13=.int .i64 k/\Hid (Below w.heap.size w wr)/\wr.cell? ⟨w.heap.size,0,none⟩=some (.slice a n c)/\Hid (F=cellsE n (G.drop k)))
  case atStart=>exact⟨0,by omega,by omega,rfl,zab _ _,by go_simp,E0⟩
  case round =>
   obtain⟨k,hk,hg,rfl,HB,lb,A⟩:=hrel;have a9:=ye _ _ lb;by_cases T:k<n
   ·have a8:(k:Int)<(n:Int):=by omega
    obtain⟨b,o,rfl,c0,ka,kc,c1,a5⟩:=(HS.out.below HB.out) k (by rw[HN.out];exact T);have J:Hid _:=fun W hW=>Z.out k T ka kc W hW;have KS:Hid (∀ o1,zaj (wr.alloc o1) ka (cl G k).ks):=fun o1=>a5.below (zab _ _)
    have U:Hid (F=if zdh n (cl G k)=0 then cellsE n (G.drop (k+1)) else zdh n (cl G k)):=by
     show _=_;rw[A.out,DR.out k T];rfl
    clear a5 A;generalize cl G k=x at *;obtain⟨xn,a6⟩:=x;dsimp only at c0 c1;obtain⟨ev,a4⟩:∃ z,zdh n ⟨xn,a6⟩=z:=⟨_,rfl⟩;rw[a4] at J U;obtain⟨l,hl⟩:∃ z,a6.length=z:=⟨_,rfl⟩;dsimp only at J;rw[hl] at J c1;clear a4 hl
    go_wp2_with fail
    refine yf (J.out _ (KS.out _)) ?_;rintro e w1 ⟨rfl,hb⟩;have M:Below wr.heap.size wr w1:=(zab _ _).trans (hb.mono (by simp));have V:Hid (Below w.heap.size w w1):=HB.out.trans (M.mono HB.out.size);have a7:=zac lb M;clear hb M lb;by_cases hz:ev=0
    ·subst hz;have D:Hid (F=cellsE n (G.drop (k+1))):=by show _=_;rw[U.out,yd rfl]
     clear U
     go_wp2_with fail
     go_roundg (n-(k+1))
     case measure=>omega
     case rel=>exact⟨k+1,by omega,by omega,by go_num,V,a7,D⟩
    ·have b4:(ev == 0)=false:=by simp[hz]
     have b5:decide (ev=0)=false:=decide_eq_false hz;have D:Hid (F=ev):=by show _=_;rw[U.out,ya hz]
     clear U
     go_wp2_with fail
     go_ret;exact⟨by rw[D.out];rfl,V.out⟩
   ·have:k=n:=by omega
    subst this;have D:Hid (F=0):=by show _=_;rw[A.out,DN.out];rfl
    clear A
    go_wp2_with fail
    go_ret;exact⟨by rw[D.out];rfl,HB.out⟩
theorem ziz(x y:Cl):x=y↔(x.n=y.n/\x.ks=y.ks):=by
 constructor
 ·rintro rfl;exact⟨rfl,rfl⟩
 ·obtain⟨a,b⟩:=x;obtain⟨c,d⟩:=y;rintro⟨rfl,rfl⟩;rfl
def zkL(K:Nat):Prop:=∀ (x y:Cl) (ka w:Option Addr) (kc A:Nat) (W:World),x.ks.length<=9223372036854775807->zaj W ka x.ks->zaj W w y.ks ->
 Calls Tryz.prog K #[.agg #[.int .i64 x.n,.slice ka x.ks.length kc],.agg #[.int .i64 y.n,.slice w y.ks.length A]] W fun e w' => ∃ r:Bool,e=.returned (.bool r)/\Below W.heap.size W w' /\(r=true↔x=y)
theorem zeR(K:Nat)(eg:∀ args w,(callFunc K args).run Tryz.prog w=.ok (.enter K args) w)(hK:zkL K)(a V:Option Addr)(c c' : Nat)(S S' : List Cl)(w:World)(hN:S.length<=9223372036854775807)(hB:zpp S)(h1:zaY w a S)(Z:zaY w V S') :
  Calls Tryz.prog 47 #[.slice a S.length c,.slice V S'.length c', .func (.func K) #[] #[]] w fun e w' => ∃ r:Bool,e=.returned (.bool r)/\Below w.heap.size w w' /\(r=true↔S=S'):=by
 by_cases hl:S.length=S'.length
 ·have E1:Hid ((∀ i,i<S.length->cl S i=cl S' i)->S=S'):=fun h=>zsl hl h;have E2:Hid (∀ i,cl S i≠cl S' i->S≠S'):=fun i h e=>h (by rw[e]);have H1:Hid (zaY w a S):=h1;have H2:Hid (zaY w V S'):=Z;have HB:Hid (zpp S):=hB;have HK:Hid (zkL K):=hK;have HL:Hid (S'.length=S.length):=hl.symm;rw[<- hl];clear h1 Z hB hl hK;generalize hn:S.length=n at *;have HN:Hid _:=hn;clear hn
  go_enter Tryz.func47,Tryz.ntmps47
  go_wp2
  go_loopg [17] n (fun g s17 wr=>∃ k:Nat,k<=n/\n-k<=g/\s17=.int .i64 k/\Below w.heap.size w wr/\Hid (∀ i,i<k->cl S i=cl S' i))
  case atStart=>exact⟨0,by omega,by omega,rfl,yj _ _,fun i hi=>by omega⟩
  case round =>
   obtain⟨k,hk,hg,rfl,D,A⟩:=hrel;by_cases F:k<n
   ·have a7:(k:Int)<(n:Int):=by omega
    obtain⟨b,o,rfl,c0,ka,kc,c5,J⟩:=(H1.out.below D) k (by rw[HN.out];exact F);obtain⟨b', o', rfl,e0,a4,a5,e5,M⟩:=(H2.out.below D) k (by rw[HL.out];exact F);have a8:=ye _ _ c0;have a6:=ye _ _ e0;have d1:=fun o1 o2=>HK.out (cl S k) (cl S' k) ka a4 kc a5 ((wr.alloc o1).alloc o2) (HB.out k (by rw[HN.out];exact F)) (J.below (zai _ _ _)) (M.below (zai _ _ _));have O:Hid _:=E2.out k
    have KK:Hid (cl S k=cl S' k->∀ i,i<k+1->cl S i=cl S' i):=fun h i hi=>by
     by_cases e:i=k
     ·subst e;exact h
     ·exact A.out i (by omega)
    clear J M;have D1:Hid _:=d1;clear d1;generalize cl S k=x at *;generalize cl S' k=y at *
    go_wp2_with fail
    refine(D1.out _ _).mono ?_;rintro e w3 ⟨r,rfl,I,hr⟩
    cases r with
    | true =>
     have U:Hid _:=hr.1 rfl;clear hr
     go_wp2
     go_roundg (n-(k+1))
     case measure=>omega
     case rel=>exact⟨k+1,by omega,by omega,by go_num,(D.trans ((zai _ _ _).mono D.size)).trans (I.mono (by simp;have:=D.size;omega)),KK.out U.out⟩
    | false =>
     have U:Hid (S≠S'):=O.out fun e=>by have:=hr.2 e;cases this
     clear hr
     go_wp2
     go_ret;exact⟨false,rfl,(D.trans ((zai _ _ _).mono D.size)).trans (I.mono (by simp;have:=D.size;omega)),⟨fun h=>(by cases h),fun h=>absurd h U.out⟩⟩
   ·have:k=n:=by omega
    subst this
    go_wp2
    go_ret;exact⟨true,rfl,D,⟨fun _=>E1.out A.out,fun _=>rfl⟩⟩
 ·have a9:¬ ((S.length:Int)=(S'.length:Int)):=by omega
  have T:Hid (S≠S'):=fun e=>hl (by rw[e]);clear h1 Z hB hK;generalize S.length=n at *;generalize S'.length=n' at *
  go_enter Tryz.func47,Tryz.ntmps47
  go_wp2
  go_ret;exact⟨false,rfl,yj _ _,⟨fun h=>(by cases h),fun h=>absurd h T.out⟩⟩
theorem zlX:zkL 79:=by
 intro x y ka T kc a4 W J h1 h2;have A:Hid (x=y↔(x.n=y.n/\x.ks=y.ks)):=ziz x y;have d:=fun(w' : World) (i1:zaj w' ka x.ks) (i2:zaj w' T y.ks)=>zdo ka T kc a4 x.ks y.ks w' J i1 i2;have D:Hid _:=d;have I1:Hid (∀ o1 o2,zaj ((W.alloc o1).alloc o2) ka x.ks):=fun o1 o2=>h1.below (zai _ _ _);have I2:Hid (∀ o1 o2,zaj ((W.alloc o1).alloc o2) T y.ks):=fun o1 o2=>h2.below (zai _ _ _);clear h1 h2 d;obtain⟨xn,F⟩:=x;obtain⟨yn,I⟩:=y;dsimp only at A D I1 I2 |-;obtain⟨xl,M⟩:∃ z,F.length=z:=⟨_,rfl⟩;obtain⟨yl,O⟩:∃ z,I.length=z:=⟨_,rfl⟩;rw[M,O] at D;rw[M,O];clear M O J;by_cases Z:xn=yn
 ·have w:Hid ((⟨xn,F⟩:Cl)=⟨yn,I⟩↔F=I):=by show _↔_;rw[A.out];simp[Z]
  subst Z;clear A
  go_enter Tryz.func79,Tryz.ntmps79
  go_wp2_with fail
  refine yf (D.out _ (I1.out _ _) (I2.out _ _)) ?_;rintro e w1 ⟨rfl,hb⟩;have HB:Hid (Below W.heap.size W w1):=(zai _ _ _).trans (hb.mono (by simp;omega));clear hb;by_cases U:F=I
  ·have V:Hid _:=w.out.2 U;rw[decide_eq_true U];clear U w
   go_wp2
   go_ret;exact⟨true,rfl,HB.out,⟨fun _=>V.out,fun _=>rfl⟩⟩
  ·have V:Hid _:=fun h=>U (w.out.1 h);rw[decide_eq_false U];clear U w
   go_wp2
   go_ret;exact⟨false,rfl,HB.out,⟨fun h=>(by cases h),fun h=>absurd h V.out⟩⟩
 ·have hd:decide (xn=yn)=false:=decide_eq_false Z;have a5:(xn == yn)=false:=by simp[Z]
  have V:Hid (¬ (⟨xn,F⟩:Cl)=⟨yn,I⟩):=fun h=>Z (A.out.1 h).1;clear A
  go_enter Tryz.func79,Tryz.ntmps79
  go_wp2_with fail
  go_ret;exact⟨false,rfl,zai _ _ _,⟨fun h=>(by cases h),fun h=>absurd h V.out⟩⟩
theorem znX(a A:Option Addr)(c D:Nat)(S S' : List Cl)(w:World)(O:S.length<=9223372036854775807)(I:zpp S)(h1:zaY w a S)(F:zaY w A S') :
  Calls Tryz.prog 32 #[.agg #[.slice a S.length c],.agg #[.slice A S'.length D]] w fun e w' => ∃ r:Bool,e=.returned (.bool r)/\Below w.heap.size w w' /\(r=true↔S=S'):=by
 have J:Hid _:=fun o1 U=>zeR 79 (enters_of Tryz.func79 (by kernel_rfl) rfl) zlX a A c D S S' ((w.alloc o1).alloc U) O I (h1.below (zai _ _ _)) (F.below (zai _ _ _));clear h1 F I;generalize S.length=n at *;generalize S'.length=V at *
 go_enter Tryz.func32,Tryz.ntmps32
 go_wp2_with (go_at_call 47;refine(J.out _ _).mono ?_;rintro e Z ⟨r,rfl,T,hr⟩;have M:Hid _:=hr;clear hr)
 go_ret;exact⟨r,rfl,(zai _ _ _).trans (T.mono (by simp;omega)),M.out⟩
theorem zkw:zkL 48:=by
 intro x y ka T kc a4 W J h1 h2;have A:Hid (x=y↔(x.n=y.n/\x.ks=y.ks)):=ziz x y;have d:=fun(w' : World) (i1:zaj w' ka x.ks) (i2:zaj w' T y.ks)=>zdo ka T kc a4 x.ks y.ks w' J i1 i2;have D:Hid _:=d;have I1:Hid (∀ o1 o2,zaj ((W.alloc o1).alloc o2) ka x.ks):=fun o1 o2=>h1.below (zai _ _ _);have I2:Hid (∀ o1 o2,zaj ((W.alloc o1).alloc o2) T y.ks):=fun o1 o2=>h2.below (zai _ _ _);clear h1 h2 d;obtain⟨xn,F⟩:=x;obtain⟨yn,I⟩:=y;dsimp only at A D I1 I2 |-;obtain⟨xl,M⟩:∃ z,F.length=z:=⟨_,rfl⟩;obtain⟨yl,O⟩:∃ z,I.length=z:=⟨_,rfl⟩;rw[M,O] at D;rw[M,O];clear M O J;by_cases Z:xn=yn
 ·have w:Hid ((⟨xn,F⟩:Cl)=⟨yn,I⟩↔F=I):=by show _↔_;rw[A.out];simp[Z]
  subst Z;clear A
  go_enter Tryz.func48,Tryz.ntmps48
  go_wp2_with fail
  refine yf (D.out _ (I1.out _ _) (I2.out _ _)) ?_;rintro e w1 ⟨rfl,hb⟩;have HB:Hid (Below W.heap.size W w1):=(zai _ _ _).trans (hb.mono (by simp;omega));clear hb;by_cases U:F=I
  ·have V:Hid _:=w.out.2 U;rw[decide_eq_true U];clear U w
   go_wp2
   go_ret;exact⟨true,rfl,HB.out,⟨fun _=>V.out,fun _=>rfl⟩⟩
  ·have V:Hid _:=fun h=>U (w.out.1 h);rw[decide_eq_false U];clear U w
   go_wp2
   go_ret;exact⟨false,rfl,HB.out,⟨fun h=>(by cases h),fun h=>absurd h V.out⟩⟩
 ·have hd:decide (xn=yn)=false:=decide_eq_false Z;have a5:(xn == yn)=false:=by simp[Z]
  have V:Hid (¬ (⟨xn,F⟩:Cl)=⟨yn,I⟩):=fun h=>Z (A.out.1 h).1;clear A
  go_enter Tryz.func48,Tryz.ntmps48
  go_wp2_with fail
  go_ret;exact⟨false,rfl,zai _ _ _,⟨fun h=>(by cases h),fun h=>absurd h V.out⟩⟩
theorem zmN(a A:Option Addr)(c D:Nat)(S S' : List Cl)(w:World)(O:S.length<=9223372036854775807)(I:zpp S)(h1:zaY w a S)(F:zaY w A S') :
  Calls Tryz.prog 18 #[.agg #[.slice a S.length c],.agg #[.slice A S'.length D]] w fun e w' => ∃ r:Bool,e=.returned (.bool r)/\Below w.heap.size w w' /\(r=true↔S=S'):=by
 have J:Hid _:=fun o1 U=>zeR 48 (enters_of Tryz.func48 (by kernel_rfl) rfl) zkw a A c D S S' ((w.alloc o1).alloc U) O I (h1.below (zai _ _ _)) (F.below (zai _ _ _));clear h1 F I;generalize S.length=n at *;generalize S'.length=V at *
 go_enter Tryz.func18,Tryz.ntmps18
 go_wp2_with (go_at_call 47;refine(J.out _ _).mono ?_;rintro e Z ⟨r,rfl,T,hr⟩;have M:Hid _:=hr;clear hr)
 go_ret;exact⟨r,rfl,(zai _ _ _).trans (T.mono (by simp;omega)),M.out⟩
structure Rl where
 s:List Nd
 hs:List (Int × Int)
 i:List Cl
 t:List Int
def zaW:Rl:=⟨[],[],[],[]⟩
structure Ac where
 k:Int
 a:Int
 b:Int
 c:Int
 n:Int
structure Rs where
 e:Int
 r:Rl
 o:Int
theorem zbz{S:List Nd}{p u:Int}(h:zas S p u=0):WF S/\∃ k:Nat,p=k/\k<S.length/\(nd S k).u=true/\(nd S k).n=u :=
 ⟨(zdy S).1 (zeA h).1,holds_zero (zeA h).2⟩
theorem zkD{S:List Nd}{hs:List (Int × Int)}(h:zar S hs=0):WF S/\∀ x ∈ hs,∃ k:Nat,x.1=k/\k<S.length/\(nd S k).u=true/\(nd S k).n=x.2:=by
 unfold zar at h
 split at h
 ·rename_i w;refine⟨(zdy S).1 w,?_⟩
  induction hs with
  | nil=>intro x hx;cases hx
  | cons y r A =>
   unfold zdR at h
   split at h
   ·rename_i h0;intro x hx;rcases List.mem_cons.1 hx with rfl|hx
    ·exact holds_zero h0
    ·exact A h x hx
   ·exact absurd h (by assumption)
 ·exact absurd h (by assumption)
def zdH(S:List Nd):Nat:=S.findIdx zbO
theorem zpJ{S:List Nd}{k:Nat}(w:k<S.length)(h1:zbO (nd S k)=true)(A:∀ i,i<k->zbO (nd S i)=false):zdH S=k:=by
 unfold zdH;rw[List.findIdx_eq w];refine⟨by rw[<- zaJ w];exact h1,fun j D=>?_⟩;have:=A j D;rw[zaJ (by omega)] at this;exact this
theorem zpI{S:List Nd}(h:S.any zbO=true):zdH S<S.length/\zbO (nd S (zdH S))=true/\∀ i,i<zdH S->zbO (nd S i)=false:=by
 obtain⟨k,A,h1,w⟩:=zlQ h;rw[zpJ A h1 w];exact⟨A,h1,w⟩
def mkS(S:List Nd)(t:Int):List Nd:=S.set (zdH S) (zbq (nd S (zdH S)) t)
def mkH(S:List Nd):Int × Int:=((zdH S:Int),(nd S (zdH S)).n+1)
theorem zfF{S:List Nd}{t:Int}(h:zcH S t=0):WF S/\(0<=t/\t<=99)/\zdH S<S.length/\zbO (nd S (zdH S))=true/\∀ i,i<zdH S->zbO (nd S i)=false:=by
 unfold zcH at h;by_cases w:zaD S=0
 ·rw[yd w] at h;by_cases A:0<=t/\t<=99
  ·rw[yd A] at h
   cases hq:S.any zbO with
   | true=>exact⟨(zdy S).1 w,A,zpI hq⟩
   | false=>rw[hq,ya (by simp)] at h;omega
  ·rw[ya A] at h;omega
 ·rw[ya w] at h;exact absurd h w
instance (S:List Nd) (k:Nat):Decidable (zdS S k):=by unfold zdS;infer_instance
def zgX(S:List Nd)(p u:Int):Int:=if zas S p u=0 then (if zdS S p.toNat then 0 else 6) else zas S p u
def zpr(S:List Nd)(p u:Int):Int:=if zas S p u=0 then (if (nd S p.toNat).p = -1 then 6 else 0) else zas S p u
def zlk(S:List Nd)(p u n:Int):Int:=if zas S p u=0 then (if -1000000<=n/\n<=1000000 then 0 else 2) else zas S p u
def znz(S:List Nd)(p u:Int)(q:List Tst):Int:=if zas S p u=0 then zcA q else zas S p u
def zek(S:List Nd)(p u q v:Int)(hs:List (Int × Int)):Int :=
 if zar S ((p,u) ::(q,v) :: hs)=0 then (if zef S q.toNat p.toNat=true then (match hs with | []=>0|h :: _=>if (nd S h.1.toNat).p=p then 0 else 6) else 6) else zar S ((p,u) ::(q,v) :: hs)
def zgN(S:List Nd)(p q:Int)(hs:List (Int × Int)):List Nd :=
 match hs with
 | []=>zaQ (leaveG S q.toNat) p.toNat q.toNat (nd (leaveG S q.toNat) p.toNat).ks.length
 | h :: _=>if h.1=q then S else zaQ (leaveG S q.toNat) p.toNat q.toNat (idx (nd (leaveG S q.toNat) p.toNat).ks h.1).toNat
def zkb(S:List Nd)(p u:Int):Int:=if zas S p u=0 then (if zdq S p=true then 6 else zcH S 0) else zas S p u
def zpV(S:List Nd)(p:Int)(c:Bool):List Nd:=S.set (zdH S) (zbI (nd S (zdH S)) p.toNat c)
def upE(S:List Nd)(p u:Int):Int:=if zas S p u=0 then (if (nd S p.toNat).p = -1 then 6 else 0) else zas S p u
def upH(S:List Nd)(p:Int):Int × Int:=((nd S p.toNat).p,(nd S (nd S p.toNat).p.toNat).n)
def zsh(S:List Nd)(p n:Int):List Nd:=S.set p.toNat { nd S p.toNat with m:=n }
def ans(E:Int)(R:Rl)(o:Int):Rs:=if E=0 then ⟨0,R,o⟩ else ⟨E,zaW,0⟩
def bad(E:Int):Rs:=⟨E,zaW,0⟩
theorem zdP{E:Int}{R:Rl}{o:Int}(h:(ans E R o).e=0):E=0/\ans E R o=⟨0,R,o⟩:=by
 by_cases w:E=0
 ·exact⟨w,yd w⟩
 ·unfold ans at h;rw[ya w] at h;exact absurd h w
def isH(k:Int):Prop:=0<=k/\k<=15
instance (k:Int):Decidable (isH k):=by unfold isH;infer_instance
def hd(R:Rl)(k:Int):Int × Int:=R.hs.getD k.toNat (0,0)
def zaB(R:Rl):Int:=if zaD R.s=0 then (if R.hs.length=16 then (if zbQ R.i=0 then (if 4800<R.t.length then 1 else 0) else zbQ R.i) else 3) else zaD R.s
def znr(R:Rl)(a n:Int):Rs:=ans (zcH R.s n) ⟨mkS R.s n,R.hs.set a.toNat (mkH R.s),R.i,R.t⟩ 0
def zrk(R:Rl)(h:Int × Int):Rs:=ans (zgX R.s h.1 h.2) ⟨R.s.set h.1.toNat (zcg (nd R.s h.1.toNat)),R.hs,R.i,R.t⟩ 0
def zjK(R:Rl)(h:Int × Int):Rs:=ans (zpr R.s h.1 h.2) ⟨leaveG R.s h.1.toNat,R.hs,R.i,R.t⟩ 0
def zsk(R:Rl)(h:Int × Int):Rs:=ans (zas R.s h.1 h.2) R (nd R.s h.1.toNat).m
def zkN(R:Rl)(h:Int × Int)(n:Int):Rs:=ans (zlk R.s h.1 h.2 n) ⟨zsh R.s h.1 n,R.hs,R.i,R.t⟩ 0
def zlH(R:Rl)(h:Int × Int)(n:Int):Rs:=if 0<=n/\n<R.i.length then zkN R h (cl R.i n.toNat).n else bad 4
def znp(R:Rl)(h:Int × Int)(t m:Int):Rs:=ans (znz R.s h.1 h.2 [⟨t,m,false⟩]) R (zcQ R.s h.1.toNat [⟨t,m,false⟩]).length
def zrj(R:Rl)(h:Int × Int):Rs:=ans (zas R.s h.1 h.2) R (zeg R.s h.1.toNat).length
def zdB(R:Rl)(h g:Int × Int)(hs:List (Int × Int)):Rs:=ans (zek R.s h.1 h.2 g.1 g.2 hs) ⟨zgN R.s h.1 g.1 hs,R.hs,R.i,R.t⟩ 0
def znq(R:Rl)(b:Int)(h:Int × Int)(c:Bool):Rs:=ans (zkb R.s h.1 h.2) ⟨zpV R.s h.1 c,R.hs.set b.toNat (mkH R.s),R.i,R.t⟩ 0
def aUp(R:Rl)(b:Int)(h:Int × Int):Rs:=ans (upE R.s h.1 h.2) ⟨R.s,R.hs.set b.toNat (upH R.s h.1),R.i,R.t⟩ 0
def doG(R:Rl)(x:Ac):Rs :=
 if isH x.a then
  if x.k=1 then znr R x.a x.n
  else if x.k=2 then zrk R (hd R x.a)
  else if x.k=4 then zjK R (hd R x.a)
  else if x.k=6 then zsk R (hd R x.a)
  else if x.k=5 then zkN R (hd R x.a) x.n
  else if x.k=11 then zlH R (hd R x.a) x.n
  else if x.k=14 then znp R (hd R x.a) x.b x.n
  else if x.k=15 then zrj R (hd R x.a)
  else if x.k=3\/x.k=7\/x.k=8 then
   if isH x.b then
    if x.k=7 then znq R x.b (hd R x.a) (decide (x.n=1))
    else if x.k=8 then aUp R x.b (hd R x.a)
    else if x.c<0 then zdB R (hd R x.a) (hd R x.b) []
    else if isH x.c then zdB R (hd R x.a) (hd R x.b) [hd R x.c] else bad 4
   else bad 4
  else bad 3
 else bad 4
def doF(R:Rl)(x:Ac):Rs:=if zaB R=0 then doG R x else bad (zaB R)
theorem WF.mark{S:List Nd}(h:WF S){k:Nat}{n:Int}(F:k<S.length)(J:(nd S k).u=true)(hn:-1000000<=n/\n<=1000000):WF (S.set k { nd S k with m:=n }):=by
 refine h.like (by simp) (fun i w=>?_) (fun i w=>?_) (fun i w D=>?_)
 ·rw[zay S k i _ F];split
  ·rename_i e;subst e;obtain⟨A,U,I⟩:=zbc (h.node i w);obtain⟨M,O,T⟩:=zci U;refine zen ?_ (zdb M O T) ?_
   ·unfold zbV at A |-;simp only[Bool.and_eq_true,decide_eq_true_eq] at A |-;exact⟨A.1,A.2.1,hn⟩
   ·unfold zcy at I |-;dsimp only;rw[yd J] at I |-;exact I
  ·exact h.node i w
 ·rw[zay S k i _ F];split
  ·rename_i e;subst e;exact⟨rfl,rfl,rfl⟩
  ·exact⟨rfl,rfl,rfl⟩
 ·rw[zay S k i _ F];split
  ·exact Or.inl J
  ·exact Or.inl D
def zfW(x y:Nd):Prop:=y.u=x.u/\y.n=x.n/\y.t=x.t/\y.m=x.m
def zsD(x y:Nd):Prop:=x.u=false/\y.u=true/\y.n=x.n+1/\y.m=x.m
def zsE(x y:Nd):Prop:=x.u=true/\y.u=false/\y.n=x.n
def zqR(x y:Nd):Prop:=y.u=x.u/\y.n=x.n/\y.t=x.t
def zsd(S T:List Nd):Prop:=T.length=S.length/\∃ q,∀ i,i<S.length->zfW (nd S i) (nd T i)\/(i=q/\(zsD (nd S i) (nd T i)\/zsE (nd S i) (nd T i)))
theorem zfW.rfl{x:Nd}:zfW x x:=⟨Eq.refl _,Eq.refl _,Eq.refl _,Eq.refl _⟩
theorem zgx{S T:List Nd}(hl:T.length=S.length)(h:∀ i,i<S.length->zfW (nd S i) (nd T i)):zsd S T:=⟨hl,0,fun i w=>Or.inl (h i w)⟩
theorem zia{S:List Nd}{k:Nat}{y:Nd}(w:k<S.length)(h:zsD (nd S k) y\/zsE (nd S k) y):zsd S (S.set k y):=⟨by simp,k,fun i A=>by
 rw[zay S k i _ w];split
 ·rename_i e;subst e;exact Or.inr ⟨rfl,h⟩
 ·exact Or.inl zfW.rfl⟩
theorem zfm{S:List Nd}{p u q v:Int}{hs:List (Int × Int)}(h:zek S p u q v hs=0):WF (zgN S p q hs)/\zsd S (zgN S p q hs):=by
 unfold zek at h;by_cases h0:zar S ((p,u) ::(q,v) :: hs)=0
 ·rw[yd h0] at h;obtain⟨wf,hx⟩:=zkD h0;obtain⟨w,e1,hpa,hpu,F⟩:=hx (p,u) (by simp);obtain⟨ch,e2,hch,hcu,A⟩:=hx (q,v) (by simp);dsimp only at e1 e2 F A;subst e1;subst e2;rw[yg,yg] at h;by_cases D:zef S ch w=true
  ·rw[yd D] at h;have pt:znj S w ch:=⟨wf,hpa,hch,hpu,hcu,D⟩
   have key:∀ at', WF (zaQ (leaveG S ch) w ch at')/\zsd S (zaQ (leaveG S ch) w ch at'):=fun at' => ⟨pt.insert at', zgx (by rw[zaE,zaF]) (fun i T=>by
    obtain⟨a1,a2,a3,I,J,U⟩:=zeH S ch i;obtain⟨b1,b2,b3,M,O,V⟩:=zdG (leaveG S ch) w ch at' i;exact⟨b1.trans a1,b2.trans a2,M.trans I,O.trans J⟩)⟩
   unfold zgN;rw[yg,yg]
   match hs with
   | []=>exact key _
   | hh :: r =>
    dsimp only;split
    ·exact⟨wf,zgx rfl (fun i T=>zfW.rfl)⟩
    ·exact key _
  ·rw[ya D] at h;omega
 ·rw[ya h0] at h;exact absurd h h0
structure Kept (R:Rl) (x:Ac) (Q:Rl) (o:Int):Prop where
 a:isH x.a
 wf:WF Q.s
 len:Q.s.length=R.s.length
 hlen:Q.hs.length=R.hs.length
 inn:Q.i=R.i
 tld:Q.t=R.t
 told:o≠0->x.k=6\/x.k=14\/x.k=15
 same:x.k=6\/x.k=14\/x.k=15->Q=R
 node:∃ q,∀ i,i<R.s.length->zfW (nd R.s i) (nd Q.s i)\/(i=q/\(zsD (nd R.s i) (nd Q.s i)\/zsE (nd R.s i) (nd Q.s i)\/zqR (nd R.s i) (nd Q.s i)))
 hand:∃ q,∀ i,i≠q->Q.hs.getD i (0,0)=R.hs.getD i (0,0)
 mark:x.k=5\/x.k=11->∃ k:Nat,(hd R x.a).1=k/\k<R.s.length/\(nd R.s k).u=true/\(nd R.s k).n=(hd R x.a).2/\(x.k=11->0<=x.n/\x.n<R.i.length)/\Q.s=R.s.set k { nd R.s k with m:=if x.k=11 then (cl R.i x.n.toNat).n else x.n }/\Q.hs=R.hs
 mild:x.k≠5->x.k≠11->zsd R.s Q.s
theorem zla{α:Type}(l:List α)(k i:Nat)(v d:α)(h:i≠k):(l.set k v).getD i d=l.getD i d:=by
 simp only[List.getD_eq_getElem?_getD,List.getElem?_set_ne (Ne.symm h)]
theorem Kept.mildly{R:Rl}{x:Ac}{T:List Nd}(D:isH x.a)(wf:WF T)(w:zsd R.s T)(J:x.k≠6/\x.k≠14/\x.k≠15)(I:x.k≠5/\x.k≠11)(H:List (Int × Int))(hl:H.length=R.hs.length)(A:∃ q,∀ i,i≠q->H.getD i (0,0)=R.hs.getD i (0,0)):Kept R x ⟨T,H,R.i,R.t⟩ 0 :=
 {a:=D,wf:=wf,len:=w.1,hlen:=hl,inn:=rfl,tld:=rfl,told:=fun h=>absurd rfl h,same:=fun h=>(by omega),
  node:=by
   obtain⟨_,q,h⟩:=w;exact⟨q,fun i F=>(h i F).imp id (fun⟨e,hh⟩=>⟨e,hh.elim Or.inl (fun h=>Or.inr (Or.inl h))⟩)⟩
  hand:=A,mark:=fun h=>(by omega),mild:=fun _ _=>w }
theorem Kept.asked{R:Rl}{x:Ac}{o:Int}(A:isH x.a)(wf:WF R.s)(D:x.k=6\/x.k=14\/x.k=15):Kept R x R o :=
 {a:=A,wf:=wf,len:=rfl,hlen:=rfl,inn:=rfl,tld:=rfl,told:=fun _=>D,same:=fun _=>rfl,
  node:=⟨0,fun i w=>Or.inl zfW.rfl⟩,hand:=⟨0,fun i w=>rfl⟩,mark:=fun h=>(by omega),mild:=fun _ _=>zgx rfl (fun i w=>zfW.rfl) }
theorem Kept.marked{R:Rl}{x:Ac}{n:Int}(M:isH x.a)(A:zlk R.s (hd R x.a).1 (hd R x.a).2 n=0)(T:x.k=5\/x.k=11)(hn:n=if x.k=11 then (cl R.i x.n.toNat).n else x.n)(F:x.k=11->0<=x.n/\x.n<R.i.length):Kept R x ⟨zsh R.s (hd R x.a).1 n,R.hs,R.i,R.t⟩ 0:=by
 unfold zlk at A;by_cases D:zas R.s (hd R x.a).1 (hd R x.a).2=0
 ·rw[yd D] at A;by_cases hr:-1000000<=n/\n<=1000000
  ·obtain⟨wf,k,e,w,J,I⟩:=zbz D;have e2:zsh R.s (hd R x.a).1 n=R.s.set k { nd R.s k with m:=n }:=by unfold zsh;rw[e,yg]
   rw[e2]
   exact
    {a:=M,wf:=wf.mark w J hr,len:=by simp,hlen:=rfl,inn:=rfl,tld:=rfl,told:=fun h=>absurd rfl h,same:=fun h=>(by omega),
     node:=⟨k,fun i F=>by
      show zfW _ (nd (R.s.set k _) i)\/(i=k/\(zsD _ (nd (R.s.set k _) i)\/zsE _ (nd (R.s.set k _) i)\/zqR _ (nd (R.s.set k _) i)));rw[zay R.s k i _ w];split
      ·rename_i e;subst e;exact Or.inr ⟨rfl,Or.inr (Or.inr ⟨rfl,rfl,rfl⟩)⟩
      ·exact Or.inl zfW.rfl⟩
     hand:=⟨0,fun i F=>rfl⟩,mark:=fun _=>⟨k,e,w,J,I,F,by rw[<- hn],rfl⟩,mild:=fun h1 O=>by omega }
  ·rw[ya hr] at A;omega
 ·rw[ya D] at A;exact absurd A D
theorem zax{R:Rl}(h:zaB R=0):WF R.s/\R.hs.length=16/\zbQ R.i=0/\R.t.length<=4800:=by
 unfold zaB at h;by_cases h1:zaD R.s=0
 ·rw[yd h1] at h;by_cases A:R.hs.length=16
  ·rw[yd A] at h;by_cases w:zbQ R.i=0
   ·rw[yd w] at h;by_cases D:4800<R.t.length
    ·rw[yd D] at h;omega
    ·exact⟨(zdy _).1 h1,A,w,by omega⟩
   ·rw[ya w] at h;exact absurd h w
  ·rw[ya A] at h;omega
 ·rw[ya h1] at h;exact absurd h h1
theorem zoX{R:Rl}(h1:WF R.s)(w:R.hs.length=16)(A:zbQ R.i=0)(D:R.t.length<=4800):zaB R=0:=by
 unfold zaB;rw[yd ((zdy _).2 h1),yd w,yd A,ya (by omega)]
theorem zpG{R:Rl}{x:Ac}(hc:zaB R=0)(h:(doG R x).e=0):Kept R x (doG R x).r (doG R x).o:=by
 obtain⟨wf,a7,_,_⟩:=zax hc;have same:∃ q,∀ i,i≠q->R.hs.getD i (0,0)=R.hs.getD i (0,0):=⟨0,fun i _=>rfl⟩;have one:∀ (k:Nat) v,∃ q,∀ i,i≠q->(R.hs.set k v).getD i (0,0)=R.hs.getD i (0,0):=fun k v=>⟨k,fun i hi=>zla _ _ _ _ _ hi⟩;unfold doG at h |-;by_cases F:isH x.a
 ·rw[yd F] at h |-;by_cases k1:x.k=1
  ·rw[yd k1] at h |-;unfold znr at h |-;obtain⟨w,D⟩:=zdP h;rw[D];obtain⟨_,ht,A,I,_⟩:=zfF w;have hp:=zeB I;exact Kept.mildly F (wf.make A I ht.1 ht.2) (zia A (Or.inl ⟨hp.1,rfl,rfl,rfl⟩)) (by omega) (by omega) _ (by simp) (one _ _)
  rw[ya k1] at h |-;by_cases k2:x.k=2
  ·rw[yd k2] at h |-;unfold zrk at h |-;obtain⟨w,D⟩:=zdP h;rw[D];unfold zgX at w;by_cases A:zas R.s (hd R x.a).1 (hd R x.a).2=0
   ·rw[yd A] at w;by_cases hl:zdS R.s (hd R x.a).1.toNat
    ·obtain⟨_,k,e,M,hu,U⟩:=zbz A;rw[e,yg] at hl |-;exact Kept.mildly F (wf.free M hl) (zia M (Or.inr ⟨hu,rfl,rfl⟩)) (by omega) (by omega) _ rfl same
    ·rw[ya hl] at w;omega
   ·rw[ya A] at w;exact absurd w A
  rw[ya k2] at h |-;by_cases k4:x.k=4
  ·rw[yd k4] at h |-;unfold zjK at h |-;obtain⟨w,D⟩:=zdP h;rw[D];unfold zpr at w;by_cases A:zas R.s (hd R x.a).1 (hd R x.a).2=0
   ·obtain⟨_,k,e,M,hu,U⟩:=zbz A;rw[e,yg];exact Kept.mildly F (wf.leaveG M) (zgx (zaF _ _) (fun i hi=>by obtain⟨a1,a2,a3,a4,a5,a6⟩:=zeH R.s k i;exact⟨a1,a2,a4,a5⟩)) (by omega) (by omega) _ rfl same
   ·rw[ya A] at w;exact absurd w A
  rw[ya k4] at h |-;by_cases k6:x.k=6
  ·rw[yd k6] at h |-;unfold zsk at h |-;rw[(zdP h).2];exact Kept.asked F wf (by omega)
  rw[ya k6] at h |-;by_cases k5:x.k=5
  ·rw[yd k5] at h |-;unfold zkN at h |-;obtain⟨w,D⟩:=zdP h;rw[D];exact Kept.marked F w (Or.inl k5) (by rw[ya (by omega)]) (fun h=>by omega)
  rw[ya k5] at h |-;by_cases J:x.k=11
  ·rw[yd J] at h |-;unfold zlH at h |-;by_cases hn:0<=x.n/\x.n<R.i.length
   ·rw[yd hn] at h |-;unfold zkN at h |-;obtain⟨w,D⟩:=zdP h;rw[D];exact Kept.marked F w (Or.inr J) (by rw[yd J]) (fun _=>hn)
   ·rw[ya hn] at h;exact absurd h (by decide)
  rw[ya J] at h |-;by_cases V:x.k=14
  ·rw[yd V] at h |-;unfold znp at h |-;rw[(zdP h).2];exact Kept.asked F wf (by omega)
  rw[ya V] at h |-;by_cases Z:x.k=15
  ·rw[yd Z] at h |-;unfold zrj at h |-;rw[(zdP h).2];exact Kept.asked F wf (by omega)
  rw[ya Z] at h |-;by_cases kk:x.k=3\/x.k=7\/x.k=8
  ·rw[yd kk] at h |-;by_cases hb:isH x.b
   ·rw[yd hb] at h |-;by_cases k7:x.k=7
    ·rw[yd k7] at h |-;unfold znq at h |-;obtain⟨w,D⟩:=zdP h;rw[D];unfold zkb at w;by_cases A:zas R.s (hd R x.a).1 (hd R x.a).2=0
     ·rw[yd A] at w;by_cases hl:zdq R.s (hd R x.a).1=true
      ·rw[yd hl] at w;omega
      ·rw[ya hl] at w;obtain⟨_,k,e,M,hu,U⟩:=zbz A;obtain⟨_,ht,A,I,_⟩:=zfF w;have hp:=zeB I;unfold zpV;rw[e] at hl |-;rw[yg];exact Kept.mildly F (wf.attach _ A I M hu (by simpa using hl)) (zia A (Or.inl ⟨hp.1,rfl,rfl,rfl⟩)) (by omega) (by omega) _ (by simp) (one _ _)
     ·rw[ya A] at w;exact absurd w A
    rw[ya k7] at h |-;by_cases k8:x.k=8
    ·rw[yd k8] at h |-;unfold aUp at h |-;rw[(zdP h).2];exact Kept.mildly F wf (zgx rfl (fun i hi=>zfW.rfl)) (by omega) (by omega) _ (by simp) (one _ _)
    rw[ya k8] at h |-;by_cases O:x.c<0
    ·rw[yd O] at h |-;unfold zdB at h |-;obtain⟨w,D⟩:=zdP h;rw[D];exact Kept.mildly F (zfm w).1 (zfm w).2 (by omega) (by omega) _ rfl same
    ·rw[ya O] at h |-;by_cases T:isH x.c
     ·rw[yd T] at h |-;unfold zdB at h |-;obtain⟨w,D⟩:=zdP h;rw[D];exact Kept.mildly F (zfm w).1 (zfm w).2 (by omega) (by omega) _ rfl same
     ·rw[ya T] at h;exact absurd h (by decide)
   ·rw[ya hb] at h;exact absurd h (by decide)
  ·rw[ya kk] at h;exact absurd h (by decide)
 ·rw[ya F] at h;exact absurd h (by decide)
theorem zrv{R:Rl}{x:Ac}(h:(doF R x).e=0):zaB R=0/\Kept R x (doF R x).r (doF R x).o/\zaB (doF R x).r=0:=by
 by_cases w:zaB R=0
 ·have e:doF R x=doG R x:=yd w;rw[e] at h |-;have k:=zpG w h;obtain⟨h1,A,D,F⟩:=zax w;exact⟨w,k,zoX k.wf (k.hlen.trans A) (by rw[k.inn];exact D) (by rw[k.tld];exact F)⟩
 ·unfold doF at h;rw[ya w] at h;exact absurd h w
def zri(q:Rs):Prop:=q.e≠0->q.r=zaW/\q.o=0
theorem zqI(E:Int)(R:Rl)(o:Int):zri (ans E R o):=fun h=>by
 unfold ans at h |-;by_cases h0:E=0
 ·rw[yd h0] at h;exact absurd rfl h
 ·rw[ya h0];exact⟨rfl,rfl⟩
theorem zly(E:Int):zri (bad E):=fun _=>⟨rfl,rfl⟩
theorem zlz{c:Prop}[Decidable c]{a b:Rs}(w:zri a)(A:zri b):zri (if c then a else b):=by
 by_cases h:c
 ·rw[yd h];exact w
 ·rw[ya h];exact A
theorem zqT(R:Rl)(x:Ac):zri (doG R x):=by
 unfold doG znr zrk zjK zsk zlH zkN znp zrj zdB znq aUp
 repeat' first|exact zqI _ _ _|exact zly _|refine zlz ?_ ?_
theorem zsJ(R:Rl)(x:Ac):zri (doF R x):=by
 unfold doF;exact zlz (zqT R x) (zly _)
theorem zjP(E:Int):(bad E).r=zaW/\(bad E).o=0/\(bad E).e=E:=⟨rfl,rfl,rfl⟩
end Go.Proofs.YtgjfmepbphfjoaaGreat
