/-
  x
-/
import Derived.Test.YtcbcpomacdngmaaGreatA30
namespace Go.Proofs.YtcbcpomacdngmaaGreat
set_option maxRecDepth 100000
set_option maxHeartbeats 4000000
set_option linter.unusedVariables false
open Go.RowKit Go.ChangeShapes Go.WideShapes Tryz
variable{w V D w3:Wd}{g h d k n B N:Nat}{R:Rl}{A:RA}{a:OA}{X:Nat->Prop}{S T:List Nd}{l:List Int}
theorem zM{f:Nat->Int}(h:∀ i,i<n->f i=0):aQ ((List.range n).map f)=0:=yV.2 (fun e D=>by
 obtain⟨i,hi,rfl⟩:=List.mem_map.1 D;exact h i (List.mem_range.1 hi))
theorem XH:∀ {l m:List Int},aQ l=0->aQ (l++m)=aQ m
 | [],_,_=>rfl
 | e :: l,m,h=>by
  have:=bM h;show (if e=0 then aQ (l++m) else e)=_;rw[ye this.1];exact XH this.2
theorem GD{f:Nat->Int}(h:∀ i,i<k->f i=0)(E:k<n)(D:f k≠0):aQ ((List.range n).map f)=f k:=by
 have e:List.range n=List.range k++(k ::(List.range (n-k-1)).map (k+1 + ·)):=by
  have:=List.range_add (n:=k) (m:=n-k);rw[show k+(n-k)=n by omega] at this;rw[this,show n-k=(n-k-1)+1 by omega,List.range_succ_eq_map];simp[Nat.add_comm]
  intros
  omega
 rw[e,List.map_append,XH (zM h),List.map_cons];show (if f k=0 then _ else f k)=f k;rw[yd D]
theorem GH{α:Type}(l:List α)(d:α)(g:α->Int):(List.range l.length).map (fun i=>g (l.getD i d))=l.map g:=by
 refine List.ext_getElem oac (fun i h1 D=>?_);have hi:i<l.length:=by simpa using h1
 rw[List.getElem_map,List.getElem_map,List.getElem_range,aJ l d hi]
theorem XI:∀ l:List Rl,lH l=aQ (l.map bI)
 | []=>rfl
 | r :: l=>by
  show (if bI r=0 then lH l else bI r)=(if bI r=0 then aQ (l.map bI) else bI r);rw[XI l]
def sO(p:List Ac):Int:=if 40<p.length then 1 else 0
theorem XJ:∀ l:List (List Ac),lI l=aQ (l.map sO)
 | []=>rfl
 | p :: l=>by
  show (if 40<p.length then 1 else lI l)=(if sO p=0 then aQ (l.map sO) else sO p);unfold sO;by_cases h:40<p.length
  ·rw[ye h,ye h,yd oae]
  ·rw[yd h,yd h,ye rfl];exact XJ l
theorem XK(n:Nat):∀ l:List (List Ml),lJ n l=aQ (l.map (dX n))
 | []=>rfl
 | q :: l=>by
  show (if dX n q=0 then lJ n l else dX n q)=(if dX n q=0 then aQ (l.map (dX n)) else dX n q);rw[XK n l]
def nK(n:Nat)(m:Ml):Int:=if 0<=m.f/\m.f<=(n:Int)-1 then bF m.g else 4
theorem XL(n:Nat):∀ l:List Ml,sG n l=aQ (l.map (nK n))
 | []=>rfl
 | m :: l=>by
  show (if 0<=m.f/\m.f<=(n:Int)-1 then (if bF m.g=0 then sG n l else bF m.g) else 4)=(if nK n m=0 then aQ (l.map (nK n)) else nK n m);by_cases h:0<=m.f/\m.f<=(n:Int)-1
  ·have e:nK n m=bF m.g:=ye h;rw[ye h,e,XL n l]
  ·have e:nK n m=4:=yd h;rw[yd h,e,yd oae]
structure ERl where
 sa:OA
 sl:Nat
 sc:Nat
 ha:OA
 hl:Nat
 hc:Nat
 ia:OA
 il:Nat
 ic:Nat
 ta:OA
 tl:Nat
 tc:Nat
structure EPg where
 pa:OA
 pl:Nat
 pc:Nat
structure EQu where
 qa:OA
 ql:Nat
 qc:Nat
structure EMl where
 f:Int
 ga:OA
 gl:Nat
 gc:Nat
theorem Sg(K:Nat)(I:Array Value)(eg:∀ args w,(callFunc K args).run prog w=.ok (.enter K args) w)(a:OA)(c n:Nat)(S:Nat->ERl)(f:Nat->Int)(w:Wd)(hn:n<=9223372036854775807)
  (hs:∀ i,i<n->∃ b o,a=some ⟨b,o,none⟩/\w.cell? ⟨b,o+i*4,none⟩=some (.slice (S i).sa (S i).sl (S i).sc)/\w.cell? ⟨b,o+i*4+1,none⟩=some (.slice (S i).ha (S i).hl (S i).hc)/\w.cell? ⟨b,o+i*4+2,none⟩=some (.slice (S i).ia (S i).il (S i).ic)/\w.cell? ⟨b,o+i*4+3,none⟩=some (.slice (S i).ta (S i).tl (S i).tc))
  (hK:∀ i,i<n->∀ W,Bl w W->yO K (#[.agg #[.slice (S i).sa (S i).sl (S i).sc,.slice (S i).ha (S i).hl (S i).hc,.slice (S i).ia (S i).il (S i).ic,.slice (S i).ta (S i).tl (S i).tc]] ++ I) W fun e W' => e=.returned (.int .i64 (f i))/\Below W.heap.size W W') :
  yO 31 #[.slice a n c,.func (.func K) #[] I] w fun e w' => e=.returned (.int .i64 (aQ ((List.range n).map f)))/\Below w.heap.size w w' := by
 have HS:Hid _:=hs;have HK:Hid _:=hK;clear hs hK
 go_enter func31,ntmps31
 go_wp2
 go_loopg [10] n (fun m s10 wr=>∃ k:Nat,k<=n/\n-k<=m/\s10=.int .i64 k/\Below w.heap.size w wr/\Hid (∀ i,i<k->f i=0))
 case atStart=>exact⟨0,oaa,oaa,rfl,yv _ _,fun i hi=>absurd hi (yB _)⟩
 case round =>
  obtain⟨k,hk,hg,rfl,hb,O⟩:=hrel;by_cases J:k<n
  ·have a5:(k:Int)<(n:Int):=oaa;obtain⟨b,o,rfl,c0,c1,c2,c3⟩:=HS.out k J;replace c0:=aA c0 hb;replace c1:=aA c1 hb;replace c2:=aA c2 hb;replace c3:=aA c3 hb;have D:Hid (∀ W,Bl wr W->Calls _ _ _ _ _):=fun W hW=>HK.out k J W (hb.trans (hW.mono hb.size));have T:Hid (f k≠0->aQ ((List.range n).map f)=f k):=fun h=>GD O.out J h;generalize S k=x at *;obtain⟨b2,b4,b3,a6,a8,a7,a9,b1,b0,b5,b7,b6⟩:=x;dsimp only at c0 c1 c2 c3 D;obtain⟨E,Z⟩:∃ E,f k=E:=⟨_,rfl⟩;have HE:Hid (f k=E):=Z;rw[Z] at D T;clear Z;by_cases U:E=0
   ·subst U
    go_wp2_with (go_at_fn K;refine(D _ ?nd).mono ?_;(case nd=>exact aB _ _);rintro e w3 ⟨rfl,F⟩;have M:Hid (Bl w w3):=hb.trans (((aB _ _).trans (F.mono oac)).mono hb.size);clear F)
    go_roundg (n-(k+1))
    case measure=>omega
    case rel =>
     refine⟨k+1,oaa,oaa,by go_num,M.out,(show Hid _ from fun i hi=>?_)⟩;by_cases e:i=k
     ·rw[e,HE.out]
     ·exact O.out i oaa
   ·have hz:(E == 0)=false:=(by simp[U]);have FB:Hid (aQ ((List.range n).map f)=E):=T.out U;clear T
    go_wp2_with (go_at_fn K;refine(D _ ?nd).mono ?_;(case nd=>exact aB _ _);rintro e w3 ⟨rfl,F⟩;have M:Hid (Bl w w3):=hb.trans (((aB _ _).trans (F.mono oac)).mono hb.size);clear F)
    go_ret;exact⟨by rw[FB.out];rfl,M.out⟩
  ·have:k=n:=oaa;subst this
   go_wp2
   go_ret;exact⟨by rw[zM O.out];rfl,hb⟩
theorem Si(K:Nat)(I:Array Value)(eg:∀ args w,(callFunc K args).run prog w=.ok (.enter K args) w)(a:OA)(c n:Nat)(S:Nat->EPg)(f:Nat->Int)(w:Wd)(hn:n<=9223372036854775807)
  (hs:∀ i,i<n->∃ b o,a=some ⟨b,o,none⟩/\w.cell? ⟨b,o+i,none⟩=some (.slice (S i).pa (S i).pl (S i).pc))
  (hK:∀ i,i<n->∀ W,Bl w W->yO K (#[.slice (S i).pa (S i).pl (S i).pc] ++ I) W fun e W' => e=.returned (.int .i64 (f i))/\Below W.heap.size W W') :
  yO 33 #[.slice a n c,.func (.func K) #[] I] w fun e w' => e=.returned (.int .i64 (aQ ((List.range n).map f)))/\Below w.heap.size w w' := by
 have HS:Hid _:=hs;have HK:Hid _:=hK;clear hs hK
 go_enter func33,ntmps33
 go_wp2
 go_loopg [10] n (fun m s10 wr=>∃ k:Nat,k<=n/\n-k<=m/\s10=.int .i64 k/\Below w.heap.size w wr/\Hid (∀ i,i<k->f i=0))
 case atStart=>exact⟨0,oaa,oaa,rfl,yv _ _,fun i hi=>absurd hi (yB _)⟩
 case round =>
  obtain⟨k,hk,hg,rfl,hb,O⟩:=hrel;by_cases J:k<n
  ·have a5:(k:Int)<(n:Int):=oaa;obtain⟨b,o,rfl,c0⟩:=HS.out k J;replace c0:=aA c0 hb;have D:Hid (∀ W,Bl wr W->Calls _ _ _ _ _):=fun W hW=>HK.out k J W (hb.trans (hW.mono hb.size));have T:Hid (f k≠0->aQ ((List.range n).map f)=f k):=fun h=>GD O.out J h;generalize S k=x at *;obtain⟨a6,a8,a7⟩:=x;dsimp only at c0 D;obtain⟨E,Z⟩:∃ E,f k=E:=⟨_,rfl⟩;have HE:Hid (f k=E):=Z;rw[Z] at D T;clear Z;by_cases U:E=0
   ·subst U
    go_wp2_with (go_at_fn K;refine(D _ ?nd).mono ?_;(case nd=>exact yv _ _);rintro e w3 ⟨rfl,F⟩;have M:Hid (Bl w w3):=hb.trans (F.mono hb.size);clear F)
    go_roundg (n-(k+1))
    case measure=>omega
    case rel =>
     refine⟨k+1,oaa,oaa,by go_num,M.out,(show Hid _ from fun i hi=>?_)⟩;by_cases e:i=k
     ·rw[e,HE.out]
     ·exact O.out i oaa
   ·have hz:(E == 0)=false:=(by simp[U]);have FB:Hid (aQ ((List.range n).map f)=E):=T.out U;clear T
    go_wp2_with (go_at_fn K;refine(D _ ?nd).mono ?_;(case nd=>exact yv _ _);rintro e w3 ⟨rfl,F⟩;have M:Hid (Bl w w3):=hb.trans (F.mono hb.size);clear F)
    go_ret;exact⟨by rw[FB.out];rfl,M.out⟩
  ·have:k=n:=oaa;subst this
   go_wp2
   go_ret;exact⟨by rw[zM O.out];rfl,hb⟩
theorem Sj(K:Nat)(I:Array Value)(eg:∀ args w,(callFunc K args).run prog w=.ok (.enter K args) w)(a:OA)(c n:Nat)(S:Nat->EQu)(f:Nat->Int)(w:Wd)(hn:n<=9223372036854775807)
  (hs:∀ i,i<n->∃ b o,a=some ⟨b,o,none⟩/\w.cell? ⟨b,o+i,none⟩=some (.slice (S i).qa (S i).ql (S i).qc))
  (hK:∀ i,i<n->∀ W,Bl w W->yO K (#[.slice (S i).qa (S i).ql (S i).qc] ++ I) W fun e W' => e=.returned (.int .i64 (f i))/\Below W.heap.size W W') :
  yO 35 #[.slice a n c,.func (.func K) #[] I] w fun e w' => e=.returned (.int .i64 (aQ ((List.range n).map f)))/\Below w.heap.size w w' := by
 have HS:Hid _:=hs;have HK:Hid _:=hK;clear hs hK
 go_enter func35,ntmps35
 go_wp2
 go_loopg [10] n (fun m s10 wr=>∃ k:Nat,k<=n/\n-k<=m/\s10=.int .i64 k/\Below w.heap.size w wr/\Hid (∀ i,i<k->f i=0))
 case atStart=>exact⟨0,oaa,oaa,rfl,yv _ _,fun i hi=>absurd hi (yB _)⟩
 case round =>
  obtain⟨k,hk,hg,rfl,hb,O⟩:=hrel;by_cases J:k<n
  ·have a5:(k:Int)<(n:Int):=oaa;obtain⟨b,o,rfl,c0⟩:=HS.out k J;replace c0:=aA c0 hb;have D:Hid (∀ W,Bl wr W->Calls _ _ _ _ _):=fun W hW=>HK.out k J W (hb.trans (hW.mono hb.size));have T:Hid (f k≠0->aQ ((List.range n).map f)=f k):=fun h=>GD O.out J h;generalize S k=x at *;obtain⟨a6,a8,a7⟩:=x;dsimp only at c0 D;obtain⟨E,Z⟩:∃ E,f k=E:=⟨_,rfl⟩;have HE:Hid (f k=E):=Z;rw[Z] at D T;clear Z;by_cases U:E=0
   ·subst U
    go_wp2_with (go_at_fn K;refine(D _ ?nd).mono ?_;(case nd=>exact yv _ _);rintro e w3 ⟨rfl,F⟩;have M:Hid (Bl w w3):=hb.trans (F.mono hb.size);clear F)
    go_roundg (n-(k+1))
    case measure=>omega
    case rel =>
     refine⟨k+1,oaa,oaa,by go_num,M.out,(show Hid _ from fun i hi=>?_)⟩;by_cases e:i=k
     ·rw[e,HE.out]
     ·exact O.out i oaa
   ·have hz:(E == 0)=false:=(by simp[U]);have FB:Hid (aQ ((List.range n).map f)=E):=T.out U;clear T
    go_wp2_with (go_at_fn K;refine(D _ ?nd).mono ?_;(case nd=>exact yv _ _);rintro e w3 ⟨rfl,F⟩;have M:Hid (Bl w w3):=hb.trans (F.mono hb.size);clear F)
    go_ret;exact⟨by rw[FB.out];rfl,M.out⟩
  ·have:k=n:=oaa;subst this
   go_wp2
   go_ret;exact⟨by rw[zM O.out];rfl,hb⟩
theorem Sk(K:Nat)(I:Array Value)(eg:∀ args w,(callFunc K args).run prog w=.ok (.enter K args) w)(a:OA)(c n:Nat)(S:Nat->EMl)(f:Nat->Int)(w:Wd)(hn:n<=9223372036854775807)
  (hs:∀ i,i<n->∃ b o,a=some ⟨b,o,none⟩/\w.cell? ⟨b,o+i*2,none⟩=some (.int .i64 (S i).f)/\w.cell? ⟨b,o+i*2+1,none⟩=some (.slice (S i).ga (S i).gl (S i).gc))
  (hK:∀ i,i<n->∀ W,Bl w W->yO K (#[.agg #[.int .i64 (S i).f,.slice (S i).ga (S i).gl (S i).gc]] ++ I) W fun e W' => e=.returned (.int .i64 (f i))/\Below W.heap.size W W') :
  yO 68 #[.slice a n c,.func (.func K) #[] I] w fun e w' => e=.returned (.int .i64 (aQ ((List.range n).map f)))/\Below w.heap.size w w' := by
 have HS:Hid _:=hs;have HK:Hid _:=hK;clear hs hK
 go_enter func68,ntmps68
 go_wp2
 go_loopg [10] n (fun m s10 wr=>∃ k:Nat,k<=n/\n-k<=m/\s10=.int .i64 k/\Below w.heap.size w wr/\Hid (∀ i,i<k->f i=0))
 case atStart=>exact⟨0,oaa,oaa,rfl,yv _ _,fun i hi=>absurd hi (yB _)⟩
 case round =>
  obtain⟨k,hk,hg,rfl,hb,O⟩:=hrel;by_cases J:k<n
  ·have a5:(k:Int)<(n:Int):=oaa;obtain⟨b,o,rfl,c0,c1⟩:=HS.out k J;replace c0:=aA c0 hb;replace c1:=aA c1 hb;have D:Hid (∀ W,Bl wr W->Calls _ _ _ _ _):=fun W hW=>HK.out k J W (hb.trans (hW.mono hb.size));have T:Hid (f k≠0->aQ ((List.range n).map f)=f k):=fun h=>GD O.out J h;generalize S k=x at *;obtain⟨xf,a6,a8,a7⟩:=x;dsimp only at c0 c1 D;obtain⟨E,Z⟩:∃ E,f k=E:=⟨_,rfl⟩;have HE:Hid (f k=E):=Z;rw[Z] at D T;clear Z;by_cases U:E=0
   ·subst U
    go_wp2_with (go_at_fn K;refine(D _ ?nd).mono ?_;(case nd=>exact aB _ _);rintro e w3 ⟨rfl,F⟩;have M:Hid (Bl w w3):=hb.trans (((aB _ _).trans (F.mono oac)).mono hb.size);clear F)
    go_roundg (n-(k+1))
    case measure=>omega
    case rel =>
     refine⟨k+1,oaa,oaa,by go_num,M.out,(show Hid _ from fun i hi=>?_)⟩;by_cases e:i=k
     ·rw[e,HE.out]
     ·exact O.out i oaa
   ·have hz:(E == 0)=false:=(by simp[U]);have FB:Hid (aQ ((List.range n).map f)=E):=T.out U;clear T
    go_wp2_with (go_at_fn K;refine(D _ ?nd).mono ?_;(case nd=>exact aB _ _);rintro e w3 ⟨rfl,F⟩;have M:Hid (Bl w w3):=hb.trans (((aB _ _).trans (F.mono oac)).mono hb.size);clear F)
    go_ret;exact⟨by rw[FB.out];rfl,M.out⟩
  ·have:k=n:=oaa;subst this
   go_wp2
   go_ret;exact⟨by rw[zM O.out];rfl,hb⟩
theorem GI{α:Type}(d:α){P:Nat->α->Prop}(h:∀ i,i<n->∃ a,P i a):∃ f:Nat->α,∀ i,i<n->P i (f i):=by
 refine⟨fun i=>if hi:i<n then Classical.choose (h i hi) else d,fun i hi=>?_⟩;dsimp only;rw[dif_pos hi];exact Classical.choose_spec (h i hi)
abbrev XM(w:Wd)(a:OA)(rs:List Rl)(i:Nat)(A:RA):Prop:=(∃ b o,a=some ⟨b,o,none⟩/\w.cell? ⟨b,o+i*4,none⟩=some (.slice A.a0 (rl rs i).s.length A.c0)/\w.cell? ⟨b,o+i*4+1,none⟩=some (.slice A.a1 (rl rs i).hs.length A.c1)/\w.cell? ⟨b,o+i*4+2,none⟩=some (.slice A.a2 (rl rs i).i.length A.c2)/\w.cell? ⟨b,o+i*4+3,none⟩=some (.slice A.a3 (rl rs i).t.length A.c3))/\aU w A (rl rs i)
abbrev XO(w:Wd)(a:OA)(ps:List (List Ac))(i:Nat)(A:OA × Nat):Prop:=(∃ b o,a=some ⟨b,o,none⟩/\w.cell? ⟨b,o+i,none⟩=some (.slice A.1 (pg ps i).length A.2))/\dY w A.1 (pg ps i)
abbrev XP(w:Wd)(a:OA)(qs:List (List Ml))(i:Nat)(A:OA × Nat):Prop:=(∃ b o,a=some ⟨b,o,none⟩/\w.cell? ⟨b,o+i,none⟩=some (.slice A.1 (qu qs i).length A.2))/\gX w A.1 (qu qs i)
theorem XQ{rs:List Rl}(D:kR w a rs):∃ f:Nat->RA,∀ i,i<rs.length->XM w a rs i (f i):=GI (P:=XM w a rs) ⟨none,none,none,none,0,0,0,0⟩ (fun i hi=>by
 obtain⟨b,o,A,e,E,F,I,J,D⟩:=D i hi;exact⟨A,⟨b,o,e,E,F,I,J⟩,D⟩)
theorem XT{ps:List (List Ac)}(E:lQ w a ps):∃ f:Nat->Option Addr × Nat,∀ i,i<ps.length->XO w a ps i (f i):=GI (P:=XO w a ps) (none,0) (fun i hi=>by
 obtain⟨b,o,pa,pc,e,F,D⟩:=E i hi;exact⟨(pa,pc),⟨b,o,e,F⟩,D⟩)
theorem XU{qs:List (List Ml)}(E:qN w a qs):∃ f:Nat->Option Addr × Nat,∀ i,i<qs.length->XP w a qs i (f i):=GI (P:=XP w a qs) (none,0) (fun i hi=>by
 obtain⟨b,o,pa,pc,e,F,_,D⟩:=E i hi;exact⟨(pa,pc),⟨b,o,e,F⟩,D⟩)
def hcF(hs:List (Int × Int)):Nat->Value:=fun j=>.int .i64 (if j % 2=0 then (hs.getD (j / 2) (0,0)).1 else (hs.getD (j / 2) (0,0)).2)
theorem YC(hs:List (Int × Int))(i:Nat):hcF hs (i*2)=.int .i64 (hs.getD i (0,0)).1:=by
 unfold hcF;rw[ye oaa,show i*2 / 2=i by omega]
theorem YD(hs:List (Int × Int))(i:Nat):hcF hs (i*2+1)=.int .i64 (hs.getD i (0,0)).2:=by
 unfold hcF;rw[yd oaa,show (i*2+1) / 2=i by omega]
theorem zO{hs:List (Int × Int)}(D:w.rowIs h 61 (hs.length*2) (hcF hs)):aZ w (some ⟨h,0,none⟩) hs:=fun i hi=>by
 refine⟨h,0,rfl,?_,?_⟩
 ·rw[yD,D.cell oaa,YC]
 ·rw[yD,D.cell oaa,YD]
theorem Td(hs:List (Int × Int))(k:Nat)(x:Int × Int)(E:k<hs.length):(fun j=>if j=k*2+1 then Value.int .i64 x.2 else if j=k*2 then Value.int .i64 x.1 else hcF hs j)=hcF (hs.set k x):=by
 have key:∀ i,(hs.set k x).getD i (0,0)=if i=k then x else hs.getD i (0,0):=fun i=>by
  by_cases e:i=k
  ·subst e;rw[ye rfl];simp[List.getD_eq_getElem?_getD,E]
  ·rw[yd e];exact CS _ _ _ _ _ e
 funext j
 unfold hcF;rw[key];by_cases h1:j=k*2+1
 ·subst h1;rw[ye rfl,yd oaa,ye oaa]
 ·rw[yd h1];by_cases D:j=k*2
  ·subst D;rw[ye rfl,ye oaa,ye oaa]
  ·rw[yd D,yd (show ¬ j / 2=k by omega)]
def iA(w:Wd)(g:Nat)(X:Nat->Prop)(S:List Nd):Prop :=
 ¬ X g/\∃ F,w.rowIs g 57 (S.length*8) F/\∀ i,i<S.length->∃ kb kc,NdR w F (i*8) (nd S i) kb kc/\kb≠g/\¬ X kb
theorem iA.off{w w' : World}(h:iA w g X S)(J:aC X w w'):iA w' g X S:=by
 obtain⟨hg,F,E,hN⟩:=h;refine⟨hg,F,E.of_block (J.block g E.lt hg),fun i hi=>?_⟩;obtain⟨kb,kc,⟨O,T,U,Z,e4,e5,e6,e7,e8,D,G,I,e9⟩,hk,M⟩:=hN i hi;exact⟨kb,kc,⟨O,T,U,Z,e4,e5,e6,e7,e8,D,G,I.of_block (J.block kb I.lt M),e9⟩,hk,M⟩
theorem iA.lt(h:iA w g X S):g<w.heap.size:=by
 obtain⟨_,F,D,_⟩:=h;exact D.lt
theorem iA.grow{Y:Nat->Prop}(h:iA w g X S)(I:∀ b,b<w.heap.size->Y b->X b):iA w g Y S:=by
 obtain⟨hg,F,E,J⟩:=h;refine⟨fun D=>hg (I g E.lt D),F,E,fun i hi=>?_⟩;obtain⟨kb,kc,h1,M,O⟩:=J i hi;exact⟨kb,kc,h1,M,fun D=>O (I kb h1.row D)⟩
theorem iA.nds(h:iA w g X S):aD w (some ⟨g,0,none⟩) S:=fun i hi=>by
 obtain⟨_,F,D,hN⟩:=h;obtain⟨kb,kc,⟨E,I,J,M,O,T,U,Z,e8,a5,G,hG,e9⟩,_⟩:=hN i hi;refine⟨g,0,rfl,?_⟩;rw[yD];refine⟨?_,?_,?_,?_,?_,⟨some ⟨kb,0,none⟩,kc,?_,fun j hj=>⟨kb,0,rfl,?_⟩⟩,?_,?_⟩
 ·rw[D.cell oaa,E]
 ·rw[D.cell oaa,I]
 ·rw[D.cell oaa,J]
 ·rw[D.cell oaa,M]
 ·rw[D.cell oaa,O]
 ·rw[D.cell oaa,T]
 ·rw[yD,hG.cell oaa,e9 j hj]
 ·rw[D.cell oaa,U]
 ·rw[D.cell oaa,Z]
theorem iA.st(h:iA w g X S):St X (fun V=>aD V (some ⟨g,0,none⟩) S) w:=fun w' D=>(h.off D).nds
theorem iA.mark(h:iA w g X S)(hk:k<S.length)(n:Int):iA (w.setCell ⟨g,k*8+3,none⟩ (.int .i64 n)) g X (S.set k { nd S k with m:=n }):=by
 obtain⟨hg,F,hF,hN⟩:=h;refine⟨hg,_,by rw[List.length_set];exact hF.set (k*8+3) (.int .i64 n),fun i hi=>?_⟩;rw[List.length_set] at hi;obtain⟨kb,kc,⟨O,T,U,e3,Z,e5,e6,e7,J,D,G,hG,M⟩,I,hx⟩:=hN i hi;have E:=hG.setOther (a:=⟨g,k*8+3,none⟩) oab (.int .i64 n);refine⟨kb,kc,?_,I,hx⟩;rw[iQ S k i _ hk];by_cases e:i=k
 ·subst e;rw[ye rfl];refine⟨?_,?_,?_,?_,?_,?_,?_,?_,J,D,G,E,M⟩
  all_goals dsimp only
  ·rw[yd oaa,O]
  ·rw[yd oaa,T]
  ·rw[yd oaa,U]
  ·rw[ye rfl]
  ·rw[yd oaa,Z]
  ·rw[yd oaa,e5]
  ·rw[yd oaa,e6]
  ·rw[yd oaa,e7]
 ·rw[yd e];refine⟨?_,?_,?_,?_,?_,?_,?_,?_,J,D,G,E,M⟩
  all_goals
   dsimp only;rw[yd oaa];assumption
def tOf(A:RA):Nat:=(A.a3.getD ⟨0,0,none⟩).block
abbrev vU(R:Rl):Nat->Value:=fun j=>.int .i64 (R.t.getD j 0)
structure CI (w:Wd) (R:Rl) (h g:Nat) (A:RA) (V:Wd):Prop where
 bel:Bl w V
 h0:w.heap.size<=h
 t0:w.heap.size<=tOf A
 th:tOf A≠h
 a0:A.a0=some ⟨g,0,none⟩
 a1:A.a1=some ⟨h,0,none⟩
 a3:A.a3=some ⟨tOf A,0,none⟩
 c3:A.c3=R.t.length
 row:V.rowIs h 61 (R.hs.length*2) (hcF R.hs)
 tr:V.rowIs (tOf A) 3 R.t.length (vU R)
 own:iA V g (fun b=>b<w.heap.size\/b=h\/b=tOf A) R.s
 cls:St (fun b=>b<w.heap.size\/b=h\/b=tOf A\/b=g) (fun V=>aO V A.a2 R.i) V
structure WI (w:Wd) (R:Rl) (d h g:Nat) (A:RA) (V:Wd):Prop where
 bel:Bl w V
 d0:w.heap.size<=d
 h0:w.heap.size<=h
 t0:w.heap.size<=tOf A
 dh:h≠d
 th:tOf A≠h
 td:tOf A≠d
 a0:A.a0=some ⟨g,0,none⟩
 a1:A.a1=some ⟨h,0,none⟩
 a3:A.a3=some ⟨tOf A,0,none⟩
 c3:A.c3=R.t.length
 box:V.heap[d]?=some (bxR A R)
 row:V.rowIs h 61 (R.hs.length*2) (hcF R.hs)
 tr:V.rowIs (tOf A) 3 R.t.length (vU R)
 own:iA V g (fun b=>b<w.heap.size\/b=d\/b=h\/b=tOf A) R.s
 cls:St (fun b=>b<w.heap.size\/b=d\/b=h\/b=tOf A\/b=g) (fun V=>aO V A.a2 R.i) V
theorem CI.wi(I:CI w R h g A V):WI w R V.heap.size h g A (V.alloc (.cells #[.slice A.a0 R.s.length A.c0,.slice A.a1 R.hs.length A.c1,.slice A.a2 R.i.length A.c2,.slice A.a3 R.t.length A.c3] 50)):=by
 have hb:=aB V (.cells #[.slice A.a0 R.s.length A.c0,.slice A.a1 R.hs.length A.c1,.slice A.a2 R.i.length A.c2,.slice A.a3 R.t.length A.c3] 50);have hl:=I.row.lt;have tl:=I.tr.lt;exact⟨I.bel.trans (hb.mono I.bel.size),I.bel.size,I.h0,I.t0,oaa,I.th,oaa,I.a0,I.a1,I.a3,I.c3,mJ _ _ _ _ _ _,I.row.of_block (hb.block h hl),I.tr.of_block (hb.block _ tl),(I.own.grow (fun b D E=>oaa)).off (aC.of_below hb),I.cls.grow (aC.of_below hb) (fun b D E=>oaa)⟩
theorem WI.below(I:WI w R d h g A V)(hb:Bl V D):WI w R d h g A D :=
 ⟨I.bel.trans (hb.mono I.bel.size),I.d0,I.h0,I.t0,I.dh,I.th,I.td,I.a0,I.a1,I.a3,I.c3,aH I.box hb,I.row.of_block (hb.block h I.row.lt),I.tr.of_block (hb.block _ I.tr.lt),I.own.off (aC.of_below hb),I.cls.off (aC.of_below hb)⟩
theorem WI.nds(I:WI w R d h g A V):aD V (some ⟨g,0,none⟩) R.s:=I.own.nds
theorem WI.gs(I:WI w R d h g A V):w.heap.size<=g/\g≠d/\h≠g/\tOf A≠g:=by
 have:=I.own.1;omega
theorem WI.base(I:WI w R d h g A V):w.heap.size<=V.heap.size/\d<V.heap.size/\h<V.heap.size/\tOf A<V.heap.size:=⟨I.bel.size,aR I.box,I.row.lt,I.tr.lt⟩
theorem WI.hand(I:WI w R d h g A V)(D:k<R.hs.length):V.cell? ⟨h,k*2,none⟩=some (.int .i64 (hd R k).1)/\V.cell? ⟨h,k*2+1,none⟩=some (.int .i64 (hd R k).2):=by
 have e:hd R (k:Int)=R.hs.getD k (0,0):=by unfold hd;rw[yk]
 rw[e];exact⟨by rw[I.row.cell oaa,YC],by rw[I.row.cell oaa,YD]⟩
structure RlF (B d:Nat) (V:Wd) (A:RA) (R:Rl):Prop where
 a3:A.a3=some ⟨tOf A,0,none⟩
 c3:A.c3=R.t.length
 t0:B<=tOf A
 td:tOf A≠d
 tr:V.rowIs (tOf A) 3 R.t.length (vU R)
 st:St (fun b=>b<B\/b=d\/b=tOf A) (fun V=>aD V A.a0 R.s/\aZ V A.a1 R.hs/\aO V A.a2 R.i) V
theorem RlF.off(h:RlF B d V A R)(E:aC (fun b=>b<B\/b=d) V D):RlF B d D A R :=
 ⟨h.a3,h.c3,h.t0,h.td,h.tr.of_block (E.block _ h.tr.lt (by have:=h.t0;have:=h.td;omega)),h.st.off (E.mono (fun b hb=>oaa))⟩
theorem RlF.below(h:RlF B d V A R)(hb:Bl V D):RlF B d D A R:=h.off (aC.of_below hb)
theorem YE{G:List Cl}(h:bF G=0):∀ i,i<G.length->(cl G i).ks.length<=1000:=fun i hi=>by
 unfold bF at h
 split at h
 ·omega
 ·have:=JV h i hi;unfold iF at this
  split at this
  ·omega
  ·split at this
   ·omega
   ·omega
def hcL(hs:List (Int × Int)):List Value:=(List.range (hs.length*2)).map (hcF hs)
theorem NF(hs:List (Int × Int)):(hcL hs).length=hs.length*2:=by simp[hcL]
theorem Te{hs:List (Int × Int)}{j:Nat}{v:Value}(h:(hcL hs)[j]?=some v):j<hs.length*2/\v=hcF hs j:=by
 obtain⟨hl,hv⟩:=List.getElem?_eq_some_iff.1 h;have D:=hl;rw[NF] at D;refine⟨D,?_⟩;rw[<- hv];simp[hcL]
theorem Tf(hs:List (Int × Int)):∀ v ∈ hcL hs,v.oneCell' = true:=fun v hv=>by
 obtain⟨j,_,rfl⟩:=List.mem_map.1 hv;rfl
theorem Tg{hs:List (Int × Int)}(h:aZ w a hs):∀ D,a=some D->∀ j v,(hcL hs)[j]?=some v->w.cell? (D.add j)=some v:=fun D e j v J=>by
 obtain⟨hl,rfl⟩:=Te J;obtain⟨b,o,E,h1,I⟩:=h (j / 2) oaa;rw[e] at E;cases E;rw[Addr.add_lit];by_cases F:j % 2=0
 ·have:j=j / 2*2:=oaa
  rw[show o+j=o+j / 2*2 by omega,h1];unfold hcF;rw[ye F]
 ·rw[show o+j=o+j / 2*2+1 by omega,I];unfold hcF;rw[yd F]
theorem Tk{hs:List (Int × Int)}(e:w.heap[h]?=some (.cells (hcL hs).toArray 61 (0,0))):w.rowIs h 61 (hs.length*2) (hcF hs):=by
 refine⟨_,e,?_,fun i hi=>?_⟩
 ·simp[NF]
 ·simp[hcL,hi]
theorem YF(h:aG w a l):∀ D,a=some D->∀ j v,(l.map (Value.int .i64))[j]?=some v->w.cell? (D.add j)=some v:=fun D e j v F=>by
 obtain⟨hl,hv⟩:=List.getElem?_eq_some_iff.1 F;obtain⟨b,o,E,h1⟩:=h j (by simpa using hl);rw[e] at E;cases E;rw[List.getElem_map] at hv;rw[aJ l 0 (by simpa using hl),hv] at h1;rw[Addr.add_lit];exact h1
theorem Tm(h:aG w a l):a=none->l.length=0:=fun e=>by
 subst e
 cases hl:l.length with
 | zero=>rfl
 | succ n=>obtain⟨b,o,D,_⟩:=h 0 oaa;cases D
theorem Tp(a:OA)(c n:Nat)(D:List Value)(w:Wd)(hn:n<=100000)(hl:D.length=n*2)(E:a=none->n=0)(hsrc:∀ F,a=some F->∀ j u,D[j]?=some u->w.cell? (F.add j)=some u)(h1:∀ u ∈ D,u.oneCell' = true) :
  yO 103 #[.slice a n c] w fun e w' => e=.returned (.slice (some ⟨w.heap.size,0,none⟩) n n)/\Below w.heap.size w w' /\ w'.heap[w.heap.size]?=some (.cells D.toArray 61 (0,0)):=by
 have hz:(prog.info? 61).map (fun i=>(i.zero,i.size,i.bytes))=some (some (.agg #[.int .i64 0,.int .i64 0]),2,16):=oad
 obtain⟨i0,J,a8,O,a9⟩:=info_parts hz
 have b0:∀ w:World,(Instr.makeSlice 44 (.int .i64 (n:Int)) (.int .i64 (n:Int))).run prog w=.ok (.slice (some ⟨w.heap.size,0,none⟩) n n) (w.alloc (.cells (madeCells #[.int .i64 0,.int .i64 0] (n*2)) 61)):=fun w=>by
  have h:=run_make (P:=prog) w 44 61 i0 _ underlying44 J a8 .i64 .i64 n n oaa oaa (by rw[a9];omega) oaa;rw[O] at h;simp only[yk] at h;exact h
 have HG:Hid ((w.alloc (.cells (madeCells #[.int .i64 0,.int .i64 0] (n*2)) 61)).heap[w.heap.size]?=some (.cells (madeCells #[.int .i64 0,.int .i64 0] (n*2)).toList.toArray 61 (0,0))):=by
  have:=yN w (.cells (madeCells #[.int .i64 0,.int .i64 0] (n*2)) 61);show _=_;simpa using this
 have a7:Hid (∀ o1:Obj,∀ F,a=some F->∀ j u,D[j]?=some u->(w.alloc o1).cell? (F.add j)=some u):=fun o1 F e j u hj=>by
  have h1:=hsrc F e j u hj;exact((aB w o1).cell (yi _ _ h1)).trans h1
 have a5:Hid (a=none->n=0):=E;have a6:Hid (∀ u ∈ D,u.oneCell' = true):=h1;have Z:Hid (D.length=n*2):=hl;clear hsrc E h1 hl
 go_enter func103,ntmps103
 go_wp2_with (refine NB rfl (.tmp 7) (.tmp 8) 44 44 rfl 61 i0 2 underlying44 J O w.heap.size n n a c rfl rfl (madeCells #[.int .i64 0,.int .i64 0] (n*2)).toList 61 HG.out D Z.out (by simp[size_madeCells]) a5.out (a7 _) a6.out ?_)
 intro w3 M I;have T:Hid (Bl w w3):=I.out _ _ (aB _ _) (yr _);have U:Hid _:=M;clear M I
 go_wp2
 go_ret;exact⟨rfl,T.out,U.out⟩
theorem Tq{kb kc:Nat->Nat}(h:Own w B g S kb kc S.length):iA w g (fun b=>b<B) S:=by
 obtain⟨h0,F,D,E,hg,_⟩:=h;exact⟨oaa,F,D,fun i hi=>⟨kb i,kc i,E i hi,by have:=hg i hi;omega,by have:=hg i hi;omega⟩⟩
theorem Tt{E F M X:Wd}{Z z:Nat}{kb kc:Nat->Nat}(c0 c1 c2:Nat)(bV:Bl w V)(b3:Bl V E)(o3:Own E V.heap.size g R.s kb kc R.s.length)(U:Bl E F)(hr:F.heap[E.heap.size]?=some (.cells (hcL R.hs).toArray 61 (0,0)))
  (O:Bl F D) (c5:St (fun b=>b<F.heap.size\/D.heap.size<=b) (fun V=>aO V (some ⟨Z,0,none⟩) R.i) D) (I:Bl D M) (tr:M.rowIs D.heap.size 3 R.t.length (vU R)) (zl:z<V.heap.size) (J:aC (fun b=>b=z) M X) (bX:Bl w X) :
  CI w R E.heap.size g ⟨some ⟨g,0,none⟩,some ⟨E.heap.size,0,none⟩,some ⟨Z,0,none⟩,some ⟨D.heap.size,0,none⟩,c0,c1,c2,R.t.length⟩ X:=by
 have hl:=aR hr;have tl:=tr.lt;have sV:=bV.size;have s3:=b3.size;have s4:=U.size;have s5:=O.size;have s6:=I.size;have T:=Tq o3;have gl:=T.lt;have hg:=T.1;have oX:iA X g (fun b=>b<V.heap.size\/b=E.heap.size\/b=D.heap.size) R.s:=((((T.grow (Y:=fun b=>b<V.heap.size\/b=E.heap.size\/b=D.heap.size) (fun b hb hy=>oaa)).off (aC.of_below U)).off (aC.of_below O)).off (aC.of_below I)).off (J.mono (fun b hb=>Or.inl (by have:b=z:=hb;omega)));refine⟨bX,oaa,(show w.heap.size<=D.heap.size by omega),(show D.heap.size≠E.heap.size by omega),rfl,rfl,rfl,rfl,Tk ?_,tr.of_block (J.block _ tl (by show ¬ D.heap.size=z;omega)),oX.grow (fun b _ hy=>?_),(St.off (X:=fun b=>b<F.heap.size\/D.heap.size<=b) (c5.off (aC.of_below I)) (J.mono (fun b hb=>Or.inl (by have:b=z:=hb;omega)))).less (fun b hb=>?_)⟩
 ·exact(J.block _ oaa (by show ¬ E.heap.size=z;omega)).trans (aH (aH hr O) I)
 ·have:b<w.heap.size\/b=E.heap.size\/b=D.heap.size:=hy;omega
 ·have:b<w.heap.size\/b=E.heap.size\/b=D.heap.size\/b=g:=hb;omega
theorem YG(A:RA)(R:Rl)(w:Wd)(hR:bI R=0)(hW:aU w A R) :
  yO 73 #[rlV A R] w fun e w' => ∃ (B:RA) (h g:Nat),e=.returned (rlV B R)/\CI w R h g B w' := by
 obtain⟨a0,a1,a2,a3,c0,c1,c2,c3⟩:=A;obtain⟨wf,hl,b0,ht⟩:=gI hR;have d5:=uR b0;obtain⟨w0,w1,w2,w3⟩:=hW;have D0:Hid (∀ W,Bl w W->_):=fun W hW=>YtcbcpomacdngmaaGreat.copy_any a0 c0 R.s W wf.small (sK wf) (w0.below hW);have D1:Hid (∀ W,Bl w W->_):=fun W hW=>Tp a1 c1 R.hs.length (hcL R.hs) W oaa (NF _) (fun e=>by obtain⟨b,o,e2,_⟩:=w1 0 oaa;rw[e] at e2;cases e2) (Tg (w1.below hW)) (Tf _);have D2:Hid (∀ W,Bl w W->_):=fun W hW=>MX a2 c2 R.i W oaa (YE b0) (w2.below hW);have D3:Hid (∀ W,Bl w W->_):=fun W hW=>IJ a3 c3 R.t W oaa (w3.below hW);clear w0 w1 w2 w3 d5 b0 wf hR ht;have CC:Hid (∀ (V D M E T X:Wd) (g gg z:Nat) (kb kc:Nat->Nat),Bl w V->Bl V D->Own D V.heap.size g R.s kb kc R.s.length->Bl D M->M.heap[D.heap.size]?=some (.cells (hcL R.hs).toArray 61 (0,0))->Bl M E->St (fun b=>b<M.heap.size\/E.heap.size<=b) (fun V=>aO V (some ⟨gg,0,none⟩) R.i) E->Bl E T->T.rowIs E.heap.size 3 R.t.length (vU R)->z<V.heap.size->aC (fun b=>b=z) T X->Bl w X->CI w R D.heap.size g ⟨some ⟨g,0,none⟩,some ⟨D.heap.size,0,none⟩,some ⟨gg,0,none⟩,some ⟨E.heap.size,0,none⟩,R.s.length,R.hs.length,R.i.length,R.t.length⟩ X):=fun V D M E T X g gg z kb kc h1 h2 h3 h4 h5 h6 h7 h8 h9 c7 c8 c9=>Tt _ _ _ h1 h2 h3 h4 h5 h6 h7 h8 h9 c7 c8 c9;dsimp only[rlV];obtain⟨O,b6⟩:∃ n,R.s.length=n:=⟨_,rfl⟩;obtain⟨U,b4⟩:∃ n,R.hs.length=n:=⟨_,rfl⟩
 obtain⟨Z,b5⟩:∃ n,R.i.length=n:=⟨_,rfl⟩;obtain⟨nt,b7⟩:∃ n,R.t.length=n:=⟨_,rfl⟩;rw[b6] at D0 CC |-;rw[b4] at D1 CC |-;rw[b5] at D2 CC |-;rw[b7] at D3 CC |-;clear b6 b4 b5 b7 hl
 go_enter func73,ntmps73
 go_wp2_with fail
 obtain⟨V,hV⟩:∃ V,(w.alloc (.cells #[.slice a0 O c0,.slice a1 U c1,.slice a2 Z c2,.slice a3 nt c3] 50)).alloc (.cells #[.slice none 0 0,.slice none 0 0,.slice none 0 0,.slice none 0 0] 50)=V:=⟨_,rfl⟩;have XR:Hid (V.heap[w.heap.size]?=some (.cells #[.slice a0 O c0,.slice a1 U c1,.slice a2 Z c2,.slice a3 nt c3] 50 (0,0))):=by rw[<- hV];exact aH (mJ _ _ _ _ _ _) (aB _ _)
 have XZ:Hid (V.heap[w.heap.size+1]?=some (.cells #[.slice none 0 0,.slice none 0 0,.slice none 0 0,.slice none 0 0] 50 (0,0))):=by
  rw[<- hV];have h:=mJ (w.alloc (.cells #[.slice a0 O c0,.slice a1 U c1,.slice a2 Z c2,.slice a3 nt c3] 50)) 50 (.slice none 0 0) (.slice none 0 0) (.slice none 0 0) (.slice none 0 0);rw[yw] at h;exact h
 have BV:Hid (Bl w V):=by rw[<- hV];exact aM _ _ _
 rw[hV];clear hV;obtain⟨l0,l1,l2,l3,lf,ll⟩:=aV XR.out
 go_region_held3 (fun a8=>a8.cell? ⟨w.heap.size,0,none⟩=some (.slice a0 O c0)/\a8.cell? ⟨w.heap.size,1,none⟩=some (.slice a1 U c1)/\a8.cell? ⟨w.heap.size,2,none⟩=some (.slice a2 Z c2)/\a8.cell? ⟨w.heap.size,3,none⟩=some (.slice a3 nt c3)) (go_keep) (first
  |(go_at_call 102;refine yj (D0 _ BV.drew) ?_;rintro e D ⟨g,kb,kc,rfl,b2,b8⟩;have B3:Hid (Bl V D):=(yv _ _).drew.trans b2;have O3:Hid (Own D V.heap.size g R.s kb kc O):=b8;have a5:Hid (Bl w D):=BV.trans (B3.mono BV.size);have q0:=aA l0 B3;have q1:=aA l1 B3;have q2:=aA l2 B3;have q3:=aA l3 B3;clear b2 b8)
  |(go_at_call 103;refine yj (D1 _ a5.out) ?_;rintro e M ⟨rfl,F,b9⟩;have B4:Hid (Bl D M):=F;have R4:Hid _:=b9;have a6:Hid (Bl w M):=a5.trans (F.mono a5.size);have p0:=aA q0 F;have p1:=aA q1 F;have p2:=aA q2 F;have p3:=aA q3 F;clear F b9)
  |(go_at_call 104;refine yj (D2 _ a6.out) ?_;rintro e E ⟨gg,rfl,I,d4,b3⟩;have B5:Hid (Bl M E):=I;have C5:Hid _:=b3;have a7:Hid (Bl w E):=a6.trans (I.mono a6.size);have r0:=aA p0 I;have r1:=aA p1 I;have r2:=aA p2 I;have r3:=aA p3 I;clear I b3 d4)
  |(go_at_call 85;refine yj (D3 _ a7.out) ?_;rintro e T ⟨rfl,J,c6⟩;have B6:Hid (Bl E T):=J;have T6:Hid _:=c6;have b1:Hid (Bl w T):=a7.trans (J.mono a7.size);have u0:=aA r0 J;have u1:=aA r1 J;have u2:=aA r2 J;have u3:=aA r3 J;clear J c6;have a9:Hid _:=aH (aH (aH (aH XZ B3) B4.out) B5.out) B6.out;obtain⟨t0,t1,t2,t3,tf,tl⟩:=aV a9.out))
 clear t0 t1 t2 t3 tf tl u0 u1 u2 u3 r0 r1 r2 r3 p0 p1 p2 p3 q0 q1 q2 q3 l0 l1 l2 l3 lf ll;obtain⟨X,hX⟩:∃ X,(((T.setCell ⟨w.heap.size+1,0,none⟩ (.slice (some ⟨g,0,none⟩) O O)).setCell ⟨w.heap.size+1,1,none⟩ (.slice (some ⟨D.heap.size,0,none⟩) U U)).setCell ⟨w.heap.size+1,2,none⟩ (.slice (some ⟨gg,0,none⟩) Z Z)).setCell ⟨w.heap.size+1,3,none⟩ (.slice (some ⟨E.heap.size,0,none⟩) nt nt)=X:=⟨_,rfl⟩;have x0:X.heap[w.heap.size+1]?=some (.cells #[.slice (some ⟨g,0,none⟩) O O,.slice (some ⟨D.heap.size,0,none⟩) U U,.slice (some ⟨gg,0,none⟩) Z Z,.slice (some ⟨E.heap.size,0,none⟩) nt nt] 50 (0,0)):=by rw[<- hX];exact nY a9.out
 have xo:aC (fun b=>b=w.heap.size+1) T X:=by
  rw[<- hX];exact(((aC.set (X:=fun b=>b=w.heap.size+1) _ _ rfl).trans (aC.set (X:=fun b=>b=w.heap.size+1) _ _ rfl)).trans (aC.set (X:=fun b=>b=w.heap.size+1) _ _ rfl)).trans (aC.set (X:=fun b=>b=w.heap.size+1) _ _ rfl)
 have xb:Bl w X:=by
  rw[<- hX];exact(((b1.setCell oac _).setCell oac _).setCell oac _).setCell oac _
 rw[hX];clear hX;have C:Hid _:=CC.out V D M E T X g gg (w.heap.size+1) kb kc BV.out B3.out O3.out B4.out R4.out B5.out C5.out B6.out T6.out (aR XZ.out) xo xb;obtain⟨m0,m1,m2,m3,mf,ml⟩:=aV x0;clear xo xb x0 O3 B3 B4 B5 B6 C5 T6 R4 a9 XZ XR BV a5 a6 a7 b1 CC D0 D1 D2 D3
 go_wp2
 exact yz (v:=.agg #[.slice (some ⟨g,0,none⟩) O O,.slice (some ⟨D.heap.size,0,none⟩) U U,.slice (some ⟨gg,0,none⟩) Z Z,.slice (some ⟨E.heap.size,0,none⟩) nt nt]) (by simp[results,results73,go_sem,m0,m1,m2,m3]) rfl ⟨_,_,_,rfl,C.out⟩
def iK(K:Nat)(D:Array Value)(w:Wd)(R:Rl)(x:Ac)(q:Rs):Prop:=∀ (d h g:Nat) (A:RA) (V:Wd),WI w R d h g A V ->
 yO K (#[.pointer (some ⟨d,0,none⟩),acV x] ++ D) V fun e E=>∃ o:Int,e=.returned (.tuple #[.int .i64 o,.int .i64 q.e])/\Below w.heap.size w E/\(q.e=0->o=q.o/\∃ B:RA,E.heap[d]?=some (bxR B q.r)/\RlF w.heap.size d E B q.r)
theorem pR(E:Int)(Q:Rl)(o:Int):(ans E Q o).e=E:=by
 unfold ans;by_cases h:E=0
 ·rw[ye h];exact h.symm
 ·rw[yd h]
theorem pU{E:Int}(h:E=0)(Q:Rl)(o:Int):ans E Q o=⟨0,Q,o⟩:=ye h
theorem WI.rl(I:WI w R d h g A V):RlF w.heap.size d V A R :=
 ⟨I.a3,I.c3,I.t0,I.td,I.tr,fun E D=>⟨by rw[I.a0];exact I.own.st.less (fun b hb=>oaa) E D,by rw[I.a1];exact zO (I.row.of_block (D.block h I.row.lt (by have:=I.h0;have:=I.dh;have:=I.th;omega))),I.cls.less (fun b hb=>oaa) E D⟩⟩
theorem WI.store(I:WI w R d h g A V)(c:Nat)(hn:St (fun b=>b<N) (fun V=>aD V a T) V)(hb:w.heap.size<=N/\d<N/\h<N/\tOf A<N) :
  Bl w (V.setCell ⟨d,0,none⟩ (.slice a T.length c))/\(V.setCell ⟨d,0,none⟩ (.slice a T.length c)).heap[d]?=some (bxR ⟨a,A.a1,A.a2,A.a3,c,A.c1,A.c2,A.c3⟩ ⟨T,R.hs,R.i,R.t⟩)/\RlF w.heap.size d (V.setCell ⟨d,0,none⟩ (.slice a T.length c)) ⟨a,A.a1,A.a2,A.a3,c,A.c1,A.c2,A.c3⟩ ⟨T,R.hs,R.i,R.t⟩:=by
 have J:∀ X:Nat->Prop,X d->aC X V (V.setCell ⟨d,0,none⟩ (.slice a T.length c)):=fun X O=>aC.set V _ O;have D:=I.rl;refine⟨I.bel.setCell I.d0 _,bR I.box,D.a3,D.c3,D.t0,D.td,D.tr.setOther D.td _,fun E F=>⟨hn E ((J _ hb.2.1).trans (F.mono (fun b M=>?_))),(D.st E ((J _ (Or.inr (Or.inl rfl))).trans F)).2⟩⟩;have U:b<w.heap.size\/b=d\/b=tOf A:=M;show b<N;omega
theorem YH{hs:List (Int × Int)}(E:V.rowIs h 61 (hs.length*2) (hcF hs))(D:k<hs.length)(y:Int × Int):((V.setCell ⟨h,k*2,none⟩ (.int .i64 y.1)).setCell ⟨h,k*2+1,none⟩ (.int .i64 y.2)).rowIs h 61 ((hs.set k y).length*2) (hcF (hs.set k y)):=by
 rw[List.length_set,<- Td hs k y D];exact(E.set (k*2) _).set (k*2+1) _
theorem YI(V:Wd)(D:X h)(o E:Nat)(u v:Value):aC X V ((V.setCell ⟨h,o,none⟩ u).setCell ⟨h,E,none⟩ v):=(aC.set V u D).trans (aC.set _ v D)
theorem WI.setHand(I:WI w R d h g A V)(M:k<R.hs.length)(y:Int × Int)(J:D=(V.setCell ⟨h,k*2,none⟩ (.int .i64 y.1)).setCell ⟨h,k*2+1,none⟩ (.int .i64 y.2)) :
  Bl w D/\D.heap[d]?=some (bxR A ⟨R.s,R.hs.set k y,R.i,R.t⟩)/\RlF w.heap.size d D A ⟨R.s,R.hs.set k y,R.i,R.t⟩:=by
 subst J;have h1:=YH I.row M y;have hb:=I.box;have F:=YI (X:=fun b=>b<w.heap.size\/b=d\/b=h\/b=tOf A) V (Or.inr (Or.inr (Or.inl rfl))) (k*2) (k*2+1) (.int .i64 y.1) (.int .i64 y.2);refine⟨(I.bel.setCell I.h0 _).setCell I.h0 _,?_,I.a3,I.c3,I.t0,I.td,(I.tr.setOther I.th _).setOther I.th _,fun D E=>⟨by rw[I.a0];exact I.own.st D (F.trans (E.mono (fun b hb=>oaa))),by rw[I.a1];exact zO (h1.of_block (E.block h h1.lt (by have:=I.h0;have:=I.dh;have:=I.th;omega))),I.cls D ((F.mono (fun b hb=>oaa)).trans (E.mono (fun b hb=>oaa)))⟩⟩;rw[yx _ _ _ _ (Ne.symm I.dh),yx _ _ _ _ (Ne.symm I.dh),hb];dsimp only[bxR];rw[List.length_set]
theorem WI.storeHand(I:WI w R d h g A V)(c:Nat)(hn:St (fun b=>b<N) (fun V=>aD V a T) V)(hb:w.heap.size<=N/\d<N/\h<N/\tOf A<N)(hk:k<R.hs.length)(y:Int × Int)(hV:D=((V.setCell ⟨d,0,none⟩ (.slice a T.length c)).setCell ⟨h,k*2,none⟩ (.int .i64 y.1)).setCell ⟨h,k*2+1,none⟩ (.int .i64 y.2)) :
  Bl w D/\D.heap[d]?=some (bxR ⟨a,A.a1,A.a2,A.a3,c,A.c1,A.c2,A.c3⟩ ⟨T,R.hs.set k y,R.i,R.t⟩)/\RlF w.heap.size d D ⟨a,A.a1,A.a2,A.a3,c,A.c1,A.c2,A.c3⟩ ⟨T,R.hs.set k y,R.i,R.t⟩:=by
 subst hV;obtain⟨O,x1,r1⟩:=I.store c hn hb;have h1:=YH (I.row.setOther (a:=⟨d,0,none⟩) I.dh (.slice a T.length c)) hk y;have J:∀ X:Nat->Prop,X d->aC X V (V.setCell ⟨d,0,none⟩ (.slice a T.length c)):=fun X F=>aC.set V _ F;have M:=fun X (F:X h)=>YI (X:=X) (V.setCell ⟨d,0,none⟩ (.slice a T.length c)) F (k*2) (k*2+1) (.int .i64 y.1) (.int .i64 y.2);refine⟨(O.setCell I.h0 _).setCell I.h0 _,?_,r1.a3,r1.c3,r1.t0,r1.td,(r1.tr.setOther (a:=⟨h,k*2,none⟩) I.th _).setOther (a:=⟨h,k*2+1,none⟩) I.th _,fun D E=>⟨hn D (((J _ hb.2.1).trans (M _ hb.2.2.1)).trans (E.mono (fun b U=>?_))),?_,I.cls D (((J _ (Or.inr (Or.inl rfl))).trans (M _ (Or.inr (Or.inr (Or.inl rfl))))).trans (E.mono (fun b hb=>?_)))⟩⟩
 ·rw[yx _ _ _ _ (Ne.symm I.dh),yx _ _ _ _ (Ne.symm I.dh),x1];dsimp only[bxR];rw[List.length_set]
 ·have Z:b<w.heap.size\/b=d\/b=tOf A:=U;show b<N;omega
 ·show aZ _ A.a1 _;rw[I.a1];exact zO (h1.of_block (E.block h h1.lt (by show ¬ (h<w.heap.size\/h=d\/h=tOf A);have:=I.h0;have:=I.dh;have:=I.th;omega)))
 ·have Z:b<w.heap.size\/b=d\/b=tOf A:=hb;omega
theorem WI.setMark(I:WI w R d h g A V)(O:k<R.s.length)(n:Int)(M:D=V.setCell ⟨g,k*8+3,none⟩ (.int .i64 n)) :
  Bl w D/\D.heap[d]?=some (bxR A ⟨R.s.set k { nd R.s k with m:=n },R.hs,R.i,R.t⟩)/\RlF w.heap.size d D A ⟨R.s.set k { nd R.s k with m:=n },R.hs,R.i,R.t⟩:=by
 subst M;obtain⟨F,J,hg,T⟩:=I.gs;have r1:=I.row.setOther (a:=⟨g,k*8+3,none⟩) hg (.int .i64 n);refine⟨I.bel.setCell F _,?_,I.a3,I.c3,I.t0,I.td,I.tr.setOther T _,fun D E=>⟨by rw[I.a0];exact(I.own.mark O n).st D (E.mono (fun b hb=>oaa)),by rw[I.a1];exact zO (r1.of_block (E.block h r1.lt (by have:=I.h0;have:=I.dh;have:=I.th;omega))),I.cls D ((aC.set V _ oaa).trans (E.mono (fun b hb=>oaa)))⟩⟩;rw[yx _ _ _ _ (Ne.symm J),I.box];dsimp only[bxR];rw[List.length_set]
theorem NG(c t:Nat)(E:Bl V D)(F:Bl D w3)(I:St (fun b=>b<D.heap.size) (fun V=>aD V a T) w3) :
  Hid (Bl V (w3.alloc (.cells #[.slice a T.length c] t)))/\Hid (St (fun b=>b<V.heap.size) (fun V=>aD V a T) (w3.alloc (.cells #[.slice a T.length c] t)))/\(w3.alloc (.cells #[.slice a T.length c] t)).cell? ⟨w3.heap.size,0,none⟩=some (.slice a T.length c)/\V.heap.size<=w3.heap.size:=by
 have b:=E.trans (F.mono E.size);have J:=E.size;exact⟨b.trans ((aB _ _).mono b.size),(I.less (fun b hb=>by show b<D.heap.size;have:b<V.heap.size:=hb;omega)).off (aC.of_below (aB _ _)),aK _ _ _ 0 rfl,b.size⟩
theorem NH(c:Nat){t:Nat}(E:Bl V D)(F:Bl D w3)(I:St (fun b=>b<D.heap.size+1) (fun V=>aD V a T) w3)(J:w3.heap[D.heap.size]?=some (.cells #[.slice none 0 0] t (0,0))) :
  Hid (Bl V (w3.setCell ⟨D.heap.size,0,none⟩ (.slice a T.length c)))/\Hid (St (fun b=>b<V.heap.size) (fun V=>aD V a T) (w3.setCell ⟨D.heap.size,0,none⟩ (.slice a T.length c)))/\(w3.setCell ⟨D.heap.size,0,none⟩ (.slice a T.length c)).cell? ⟨D.heap.size,0,none⟩=some (.slice a T.length c)/\V.heap.size<=D.heap.size:=by
 have b:=E.trans (F.mono E.size);have M:=E.size;exact⟨b.setCell E.size _,(I.off (aC.set w3 _ (by show D.heap.size<D.heap.size+1;omega))).less (fun b hb=>by show b<D.heap.size+1;have:b<V.heap.size:=hb;omega),cZ (bR (i:=0) J),E.size⟩
theorem YJ(F:Nat)(eg:∀ args w,(callFunc F args).run prog w=.ok (.enter F args) w)(cb:Nat)(w:Wd)(hc:w.cell? ⟨cb,0,none⟩=some (.func (.func F) #[] #[]))(R:Rl)(x:Ac)(hl:R.hs.length=16)(ha:isH x.a)(T:List Nd)(E:Int)(hF:LJ F R.s (rS E T) #[hdV (hd R x.a)] E) :
  iK 183 #[.pointer (some ⟨cb,0,none⟩)] w R x (ans E ⟨T,R.hs,R.i,R.t⟩ 0):=fun d h g A V I=>by
 rw[pR];obtain⟨a0,a1,a2,a3,c0,c1,c2,c3⟩:=A;obtain rfl:a0=some ⟨g,0,none⟩:=I.a0;obtain rfl:a1=some ⟨h,0,none⟩:=I.a1;obtain⟨xk,xa,xb,xc,xn⟩:=x;obtain⟨p,hp,b2⟩:=iJ ha;dsimp only at hp;subst hp;obtain⟨u0,u1⟩:=I.hand (k:=p) oaa;have II:Hid (WI w R d h g _ V):=I;have D:Hid (∀ W,Bl V W->yO F #[.agg #[.slice (some ⟨g,0,none⟩) R.s.length c0],.agg #[.int .i64 (hd R (p:Int)).1,.int .i64 (hd R (p:Int)).2]] W fun e w' => ∃ a' c', e=.returned (.tuple #[.agg #[.slice a' (rS E T).length c'],.int .i64 E])/\Below W.heap.size W w' /\ St (fun b=>b<W.heap.size) (fun V=>aD V a' (rS E T)) w'):=fun W hW=>hF (some ⟨g,0,none⟩) c0 W (I.nds.below hW);have k0:=(I.bel.cell (yi _ _ hc)).trans hc;obtain⟨l0,l1,l2,l3,fz,lt⟩:=aV I.box;dsimp only at l0 l1 l2 l3;rw[hl] at l1;clear hF;generalize hd R (p:Int)=hh at *;obtain⟨P,U⟩:=hh;have a9:d<V.heap.size:=lt;have b0:h<V.heap.size:=yi _ _ u0;have a8:cb<V.heap.size:=yi _ _ k0;show yO _ #[.pointer (some ⟨d,0,none⟩),.agg #[.int .i64 xk,.int .i64 p,.int .i64 xb,.int .i64 xc,.int .i64 xn],.pointer (some ⟨cb,0,none⟩)] V _;clear hl ha I hc;obtain⟨ns,b1⟩:∃ n,R.s.length=n:=⟨_,rfl⟩;rw[b1] at D l0;have b5:(p:Int)<16:=oaa
 go_enter func183,ntmps183
 go_upto_region 1 with fail
 obtain⟨J,a6⟩:∃ J,V.alloc (.cells #[.int .i64 xk,.int .i64 p,.int .i64 xb,.int .i64 xc,.int .i64 xn] 36)=J:=⟨_,rfl⟩;have BV:Hid (Bl V J):=by rw[<- a6];exact aB _ _
 have y1:J.cell? ⟨V.heap.size,1,none⟩=some (.int .i64 p):=by rw[<- a6];exact aK _ _ _ 1 rfl
 have sV:V.heap.size<J.heap.size:=yi _ _ y1;rw[a6];clear a6;replace u0:=aA u0 BV;replace u1:=aA u1 BV;replace l0:=aA l0 BV;replace l1:=aA l1 BV;replace k0:=aA k0 BV;have b4:d<V.heap.size:=lt;have n1:¬ J.heap.size=cb:=oaa
 have n2:¬ J.heap.size=d:=oaa
 have n3:¬ J.heap.size=h:=oaa
 have n4:¬ J.heap.size=V.heap.size:=oaa
 have b6:¬ cb=J.heap.size:=oaa
 have b7:¬ d=J.heap.size:=oaa
 have b8:¬ h=J.heap.size:=oaa
 have b9:¬ V.heap.size=J.heap.size:=oaa
 replace a9:d<J.heap.size:=oaa
 replace b0:h<J.heap.size:=oaa
 replace a8:cb<J.heap.size:=oaa
 clear l2 l3 fz lt
 go_cut [7,8] (fun s7 s8 wx=>∃ (b:Nat) (a' :OA) (c' : Nat),s7=.pointer (some ⟨b,0,none⟩)/\s8=.int .i64 E/\Hid (Bl V wx)/\Hid (St (fun b=>b<V.heap.size) (fun V=>aD V a' (rS E T)) wx)/\wx.cell? ⟨b,0,none⟩=some (.slice a' (rS E T).length c')/\V.heap.size<=b)
 case first =>
  go_region_held3 (fun Z=>Z.cell? ⟨cb,0,none⟩=some (.func (.func F) #[] #[])/\Z.cell? ⟨d,0,none⟩=some (.slice (some ⟨g,0,none⟩) ns c0)/\Z.cell? ⟨d,1,none⟩=some (.slice (some ⟨h,0,none⟩) 16 c1)/\Z.cell? ⟨h,p*2,none⟩=some (.int .i64 P)/\Z.cell? ⟨h,p*2+1,none⟩=some (.int .i64 U)/\Z.cell? ⟨V.heap.size,1,none⟩=some (.int .i64 p)) (go_keep) (first|(refine yj (D J.drew BV.drew) ?_;rintro e w3 ⟨a', c', rfl,O,a5⟩;have M:Hid (Bl J w3):=(yv _ _).drew.trans O;have N3:Hid (St (fun b=>b<J.heap.size) (fun V=>aD V a' (rS E T)) w3):=a5;have g0:=aA k0 M;have g1:=aA l0 M;have g2:=aA l1 M;have g3:=aA u0 M;have g4:=aA u1 M;have g5:=aA y1 M;clear O a5)|(refine yj (D (J.alloc (.cells #[.slice none 0 0] 43)).drew (BV.trans ((aB J _).mono BV.size)).drew) ?_;rintro e w3 ⟨a', c', rfl,O,a5⟩;have M:Hid (Bl J w3):=(aB J _).drew.trans (O.mono oac);have N3:Hid (St (fun b=>b<J.heap.size+1) (fun V=>aD V a' (rS E T)) w3):=(by have h:=a5;simp only[yw,World.size_drew] at h;exact h);have g0:=aA k0 M;have g1:=aA l0 M;have g2:=aA l1 M;have g3:=aA u0 M;have g4:=aA u1 M;have g5:=aA y1 M;have X3:Hid (w3.heap[J.heap.size]?=some (.cells #[.slice none 0 0] 43 (0,0))):=aH (W:=(J.alloc (.cells #[.slice none 0 0] 43)).drew) (yN J _) O;have x3:=cZ X3.out;have xf:=iB (o:=0) X3.out;have xl:J.heap.size<w3.heap.size:=aR X3.out;clear O a5))
  ·go_wp2_with fail
   go_meet
   case rel=>exact⟨_,_,_,rfl,rfl,NG _ _ BV.out M.out N3.out⟩
  ·go_wp2_with fail
   go_meet
   case rel=>exact⟨_,_,_,rfl,rfl,NH _ BV.out M.out N3.out X3.out⟩
 case rest =>
  obtain⟨b,a', c', rfl,rfl,HB,HN,a7,b3⟩:=hcut;have I2:Hid _:=II.below HB;have hS:=I2.store c' HN.out II.base;have HS:Hid _:=hS;obtain⟨m0,m1,m2,m3,mf,ml⟩:=aV I2.box;have bl:b<wc.heap.size:=yi _ _ a7;have c6:¬ b=d:=oaa
  clear hS II D u0 u1 l0 l1 k0 y1
  go_wp2
  refine yz (v:=.tuple #[.int .i64 0,.int .i64 E]) (by simp[results,results183,go_sem]) rfl ⟨0,rfl,HS.out.1,fun hE=>?_⟩;rw[pU hE];have h2:=HS.out.2;rw[hE,lM] at h2;rw[hE,lM];exact⟨rfl,_,h2⟩
