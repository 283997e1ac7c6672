/-
  x
-/
import Derived.Test.YtcbcpomacdngmaaGreatS29
namespace Go.Proofs.YtcbcpomacdngmaaGreat
set_option maxRecDepth 100000
set_option maxHeartbeats 4000000
set_option linter.unusedVariables false
open Go.RowKit Go.ChangeShapes Go.WideShapes
theorem zea{f:Nat->Int}{n:Nat}(h:∀ i,i<n->f i=0):zan ((List.range n).map f)=0:=zeb.2 (fun e D=>by
 obtain⟨i,hi,rfl⟩:=List.mem_map.1 D;exact h i (List.mem_range.1 hi))
theorem zmJ:∀ {l m:List Int},zan l=0->zan (l++m)=zan m
 | [],_,_=>rfl
 | e :: l,m,h=>by
  have:=zat h;show (if e=0 then zan (l++m) else e)=_;rw[yb this.1];exact zmJ this.2
theorem ziD{f:Nat->Int}{n k:Nat}(h:∀ i,i<k->f i=0)(E:k<n)(D:f k≠0):zan ((List.range n).map f)=f k:=by
 have e:List.range n=List.range k++(k ::(List.range (n-k-1)).map (k+1 + ·)):=by
  have:=List.range_add (n:=k) (m:=n-k);rw[show k+(n-k)=n by omega] at this;rw[this,show n-k=(n-k-1)+1 by omega,List.range_succ_eq_map];simp[Nat.add_comm]
  intros
  omega
 rw[e,List.map_append,zmJ (zea h),List.map_cons];show (if f k=0 then _ else f k)=f k;rw[ya D]
theorem zgZ{α:Type}(l:List α)(d:α)(g:α->Int):(List.range l.length).map (fun i=>g (l.getD i d))=l.map g:=by
 refine List.ext_getElem (by simp) (fun i h1 D=>?_);have hi:i<l.length:=by simpa using h1
 rw[List.getElem_map,List.getElem_map,List.getElem_range,zae l d hi]
theorem zin:∀ l:List Rl,zcK l=zan (l.map zaF)
 | []=>rfl
 | r :: l=>by
  show (if zaF r=0 then zcK l else zaF r)=(if zaF r=0 then zan (l.map zaF) else zaF r);rw[zin l]
def zoU(p:List Ac):Int:=if 40<p.length then 1 else 0
theorem zjz:∀ l:List (List Ac),zem l=zan (l.map zoU)
 | []=>rfl
 | p :: l=>by
  show (if 40<p.length then 1 else zem l)=(if zoU p=0 then zan (l.map zoU) else zoU p);unfold zoU;by_cases h:40<p.length
  ·rw[yb h,yb h,ya (by decide)]
  ·rw[ya h,ya h,yb rfl];exact zjz l
theorem zil(n:Nat):∀ l:List (List Ml),zcJ n l=zan (l.map (zbT n))
 | []=>rfl
 | q :: l=>by
  show (if zbT n q=0 then zcJ n l else zbT n q)=(if zbT n q=0 then zan (l.map (zbT n)) else zbT n q);rw[zil n l]
def zjj(n:Nat)(m:Ml):Int:=if 0<=m.f/\m.f<=(n:Int)-1 then zav m.g else 4
theorem zjl(n:Nat):∀ l:List Ml,zjk n l=zan (l.map (zjj n))
 | []=>rfl
 | m :: l=>by
  show (if 0<=m.f/\m.f<=(n:Int)-1 then (if zav m.g=0 then zjk n l else zav m.g) else 4)=(if zjj n m=0 then zan (l.map (zjj n)) else zjj n m);by_cases h:0<=m.f/\m.f<=(n:Int)-1
  ·have e:zjj n m=zav m.g:=yb h;rw[yb h,e,zjl n l]
  ·have e:zjj n m=4:=ya h;rw[ya h,e,ya (by decide)]
structure ERl where
 sa:Option Addr
 sl:Nat
 sc:Nat
 ha:Option Addr
 hl:Nat
 hc:Nat
 ia:Option Addr
 il:Nat
 ic:Nat
 ta:Option Addr
 tl:Nat
 tc:Nat
structure EPg where
 pa:Option Addr
 pl:Nat
 pc:Nat
structure EQu where
 qa:Option Addr
 ql:Nat
 qc:Nat
structure EMl where
 f:Int
 ga:Option Addr
 gl:Nat
 gc:Nat
theorem zsE(K:Nat)(J:Array Value)(eg:∀ args w,(callFunc K args).run Tryz.prog w=.ok (.enter K args) w)(a:Option Addr)(c n:Nat)(S:Nat->ERl)(f:Nat->Int)(w:World)(hn:n<=9223372036854775807)
  (hs:∀ i,i<n->∃ b o,a=some ⟨b,o,none⟩/\w.cell? ⟨b,o+i*4,none⟩=some (.slice (S i).sa (S i).sl (S i).sc)/\w.cell? ⟨b,o+i*4+1,none⟩=some (.slice (S i).ha (S i).hl (S i).hc)/\w.cell? ⟨b,o+i*4+2,none⟩=some (.slice (S i).ia (S i).il (S i).ic)/\w.cell? ⟨b,o+i*4+3,none⟩=some (.slice (S i).ta (S i).tl (S i).tc))
  (hK:∀ i,i<n->∀ W,Below w.heap.size w W->yM K (#[.agg #[.slice (S i).sa (S i).sl (S i).sc,.slice (S i).ha (S i).hl (S i).hc,.slice (S i).ia (S i).il (S i).ic,.slice (S i).ta (S i).tl (S i).tc]] ++ J) W fun e W' => e=.returned (.int .i64 (f i))/\Below W.heap.size W W') :
  yM 31 #[.slice a n c,.func (.func K) #[] J] w fun e w' => e=.returned (.int .i64 (zan ((List.range n).map f)))/\Below w.heap.size w w' := by
 have HS:Hid _:=hs;have HK:Hid _:=hK;clear hs hK
 go_enter Tryz.func31,Tryz.ntmps31
 go_wp2
 go_loopg [10] n (fun m s10 wr=>∃ k:Nat,k<=n/\n-k<=m/\s10=.int .i64 k/\Below w.heap.size w wr/\Hid (∀ i,i<k->f i=0))
 case atStart=>exact⟨0,by omega,by omega,rfl,yk _ _,fun i hi=>absurd hi (yx _)⟩
 case round =>
  obtain⟨k,hk,hg,rfl,F,O⟩:=hrel;by_cases M:k<n
  ·have a5:(k:Int)<(n:Int):=(by omega);obtain⟨b,o,rfl,c0,c1,c2,c3⟩:=HS.out k M;replace c0:=zab c0 F;replace c1:=zab c1 F;replace c2:=zab c2 F;replace c3:=zab c3 F;have D:Hid (∀ W,Below wr.heap.size wr W->Calls _ _ _ _ _):=fun W hW=>HK.out k M W (F.trans (hW.mono F.size));have U:Hid (f k≠0->zan ((List.range n).map f)=f k):=fun h=>ziD O.out M h;generalize S k=x at *;obtain⟨b2,b4,b3,a6,a8,a7,a9,b1,b0,b5,b7,b6⟩:=x;dsimp only at c0 c1 c2 c3 D;obtain⟨E,hE⟩:∃ E,f k=E:=⟨_,rfl⟩;have HE:Hid (f k=E):=hE;rw[hE] at D U;clear hE;by_cases Z:E=0
   ·subst Z
    go_wp2_with (go_at_fn K;refine(D.out _ ?nd).mono ?_;(case nd=>exact zaa _ _);rintro e w3 ⟨rfl,I⟩;have T:Hid (Below w.heap.size w w3):=F.trans (((zaa _ _).trans (I.mono (by simp))).mono F.size);clear I)
    go_roundg (n-(k+1))
    case measure=>omega
    case rel =>
     refine⟨k+1,by omega,by omega,by go_num,T.out,(show Hid _ from fun i hi=>?_)⟩;by_cases e:i=k
     ·rw[e,HE.out]
     ·exact O.out i (by omega)
   ·have hz:(E == 0)=false:=(by simp[Z]);have FB:Hid (zan ((List.range n).map f)=E):=U.out Z;clear U
    go_wp2_with (go_at_fn K;refine(D.out _ ?nd).mono ?_;(case nd=>exact zaa _ _);rintro e w3 ⟨rfl,I⟩;have T:Hid (Below w.heap.size w w3):=F.trans (((zaa _ _).trans (I.mono (by simp))).mono F.size);clear I)
    go_ret;exact⟨by rw[FB.out];rfl,T.out⟩
  ·have:k=n:=(by omega);subst this
   go_wp2
   go_ret;exact⟨by rw[zea O.out];rfl,F⟩
theorem zsC(K:Nat)(I:Array Value)(eg:∀ args w,(callFunc K args).run Tryz.prog w=.ok (.enter K args) w)(a:Option Addr)(c n:Nat)(S:Nat->EPg)(f:Nat->Int)(w:World)(hn:n<=9223372036854775807)
  (hs:∀ i,i<n->∃ b o,a=some ⟨b,o,none⟩/\w.cell? ⟨b,o+i,none⟩=some (.slice (S i).pa (S i).pl (S i).pc))
  (hK:∀ i,i<n->∀ W,Below w.heap.size w W->yM K (#[.slice (S i).pa (S i).pl (S i).pc] ++ I) W fun e W' => e=.returned (.int .i64 (f i))/\Below W.heap.size W W') :
  yM 33 #[.slice a n c,.func (.func K) #[] I] w fun e w' => e=.returned (.int .i64 (zan ((List.range n).map f)))/\Below w.heap.size w w' := by
 have HS:Hid _:=hs;have HK:Hid _:=hK;clear hs hK
 go_enter Tryz.func33,Tryz.ntmps33
 go_wp2
 go_loopg [10] n (fun m s10 wr=>∃ k:Nat,k<=n/\n-k<=m/\s10=.int .i64 k/\Below w.heap.size w wr/\Hid (∀ i,i<k->f i=0))
 case atStart=>exact⟨0,by omega,by omega,rfl,yk _ _,fun i hi=>absurd hi (yx _)⟩
 case round =>
  obtain⟨k,hk,hg,rfl,J,O⟩:=hrel;by_cases M:k<n
  ·have a5:(k:Int)<(n:Int):=(by omega);obtain⟨b,o,rfl,c0⟩:=HS.out k M;replace c0:=zab c0 J;have D:Hid (∀ W,Below wr.heap.size wr W->Calls _ _ _ _ _):=fun W hW=>HK.out k M W (J.trans (hW.mono J.size));have U:Hid (f k≠0->zan ((List.range n).map f)=f k):=fun h=>ziD O.out M h;generalize S k=x at *;obtain⟨a6,a8,a7⟩:=x;dsimp only at c0 D;obtain⟨E,hE⟩:∃ E,f k=E:=⟨_,rfl⟩;have HE:Hid (f k=E):=hE;rw[hE] at D U;clear hE;by_cases Z:E=0
   ·subst Z
    go_wp2_with (go_at_fn K;refine(D.out _ ?nd).mono ?_;(case nd=>exact yk _ _);rintro e w3 ⟨rfl,F⟩;have T:Hid (Below w.heap.size w w3):=J.trans (F.mono J.size);clear F)
    go_roundg (n-(k+1))
    case measure=>omega
    case rel =>
     refine⟨k+1,by omega,by omega,by go_num,T.out,(show Hid _ from fun i hi=>?_)⟩;by_cases e:i=k
     ·rw[e,HE.out]
     ·exact O.out i (by omega)
   ·have hz:(E == 0)=false:=(by simp[Z]);have FB:Hid (zan ((List.range n).map f)=E):=U.out Z;clear U
    go_wp2_with (go_at_fn K;refine(D.out _ ?nd).mono ?_;(case nd=>exact yk _ _);rintro e w3 ⟨rfl,F⟩;have T:Hid (Below w.heap.size w w3):=J.trans (F.mono J.size);clear F)
    go_ret;exact⟨by rw[FB.out];rfl,T.out⟩
  ·have:k=n:=(by omega);subst this
   go_wp2
   go_ret;exact⟨by rw[zea O.out];rfl,J⟩
theorem zsD(K:Nat)(I:Array Value)(eg:∀ args w,(callFunc K args).run Tryz.prog w=.ok (.enter K args) w)(a:Option Addr)(c n:Nat)(S:Nat->EQu)(f:Nat->Int)(w:World)(hn:n<=9223372036854775807)
  (hs:∀ i,i<n->∃ b o,a=some ⟨b,o,none⟩/\w.cell? ⟨b,o+i,none⟩=some (.slice (S i).qa (S i).ql (S i).qc))
  (hK:∀ i,i<n->∀ W,Below w.heap.size w W->yM K (#[.slice (S i).qa (S i).ql (S i).qc] ++ I) W fun e W' => e=.returned (.int .i64 (f i))/\Below W.heap.size W W') :
  yM 35 #[.slice a n c,.func (.func K) #[] I] w fun e w' => e=.returned (.int .i64 (zan ((List.range n).map f)))/\Below w.heap.size w w' := by
 have HS:Hid _:=hs;have HK:Hid _:=hK;clear hs hK
 go_enter Tryz.func35,Tryz.ntmps35
 go_wp2
 go_loopg [10] n (fun m s10 wr=>∃ k:Nat,k<=n/\n-k<=m/\s10=.int .i64 k/\Below w.heap.size w wr/\Hid (∀ i,i<k->f i=0))
 case atStart=>exact⟨0,by omega,by omega,rfl,yk _ _,fun i hi=>absurd hi (yx _)⟩
 case round =>
  obtain⟨k,hk,hg,rfl,J,O⟩:=hrel;by_cases M:k<n
  ·have a5:(k:Int)<(n:Int):=(by omega);obtain⟨b,o,rfl,c0⟩:=HS.out k M;replace c0:=zab c0 J;have D:Hid (∀ W,Below wr.heap.size wr W->Calls _ _ _ _ _):=fun W hW=>HK.out k M W (J.trans (hW.mono J.size));have U:Hid (f k≠0->zan ((List.range n).map f)=f k):=fun h=>ziD O.out M h;generalize S k=x at *;obtain⟨a6,a8,a7⟩:=x;dsimp only at c0 D;obtain⟨E,hE⟩:∃ E,f k=E:=⟨_,rfl⟩;have HE:Hid (f k=E):=hE;rw[hE] at D U;clear hE;by_cases Z:E=0
   ·subst Z
    go_wp2_with (go_at_fn K;refine(D.out _ ?nd).mono ?_;(case nd=>exact yk _ _);rintro e w3 ⟨rfl,F⟩;have T:Hid (Below w.heap.size w w3):=J.trans (F.mono J.size);clear F)
    go_roundg (n-(k+1))
    case measure=>omega
    case rel =>
     refine⟨k+1,by omega,by omega,by go_num,T.out,(show Hid _ from fun i hi=>?_)⟩;by_cases e:i=k
     ·rw[e,HE.out]
     ·exact O.out i (by omega)
   ·have hz:(E == 0)=false:=(by simp[Z]);have FB:Hid (zan ((List.range n).map f)=E):=U.out Z;clear U
    go_wp2_with (go_at_fn K;refine(D.out _ ?nd).mono ?_;(case nd=>exact yk _ _);rintro e w3 ⟨rfl,F⟩;have T:Hid (Below w.heap.size w w3):=J.trans (F.mono J.size);clear F)
    go_ret;exact⟨by rw[FB.out];rfl,T.out⟩
  ·have:k=n:=(by omega);subst this
   go_wp2
   go_ret;exact⟨by rw[zea O.out];rfl,J⟩
theorem zsB(K:Nat)(J:Array Value)(eg:∀ args w,(callFunc K args).run Tryz.prog w=.ok (.enter K args) w)(a:Option Addr)(c n:Nat)(S:Nat->EMl)(f:Nat->Int)(w:World)(hn:n<=9223372036854775807)
  (hs:∀ i,i<n->∃ b o,a=some ⟨b,o,none⟩/\w.cell? ⟨b,o+i*2,none⟩=some (.int .i64 (S i).f)/\w.cell? ⟨b,o+i*2+1,none⟩=some (.slice (S i).ga (S i).gl (S i).gc))
  (hK:∀ i,i<n->∀ W,Below w.heap.size w W->yM K (#[.agg #[.int .i64 (S i).f,.slice (S i).ga (S i).gl (S i).gc]] ++ J) W fun e W' => e=.returned (.int .i64 (f i))/\Below W.heap.size W W') :
  yM 68 #[.slice a n c,.func (.func K) #[] J] w fun e w' => e=.returned (.int .i64 (zan ((List.range n).map f)))/\Below w.heap.size w w' := by
 have HS:Hid _:=hs;have HK:Hid _:=hK;clear hs hK
 go_enter Tryz.func68,Tryz.ntmps68
 go_wp2
 go_loopg [10] n (fun m s10 wr=>∃ k:Nat,k<=n/\n-k<=m/\s10=.int .i64 k/\Below w.heap.size w wr/\Hid (∀ i,i<k->f i=0))
 case atStart=>exact⟨0,by omega,by omega,rfl,yk _ _,fun i hi=>absurd hi (yx _)⟩
 case round =>
  obtain⟨k,hk,hg,rfl,I,O⟩:=hrel;by_cases M:k<n
  ·have a5:(k:Int)<(n:Int):=(by omega);obtain⟨b,o,rfl,c0,c1⟩:=HS.out k M;replace c0:=zab c0 I;replace c1:=zab c1 I;have D:Hid (∀ W,Below wr.heap.size wr W->Calls _ _ _ _ _):=fun W hW=>HK.out k M W (I.trans (hW.mono I.size));have U:Hid (f k≠0->zan ((List.range n).map f)=f k):=fun h=>ziD O.out M h;generalize S k=x at *;obtain⟨xf,a6,a8,a7⟩:=x;dsimp only at c0 c1 D;obtain⟨E,hE⟩:∃ E,f k=E:=⟨_,rfl⟩;have HE:Hid (f k=E):=hE;rw[hE] at D U;clear hE;by_cases Z:E=0
   ·subst Z
    go_wp2_with (go_at_fn K;refine(D.out _ ?nd).mono ?_;(case nd=>exact zaa _ _);rintro e w3 ⟨rfl,F⟩;have T:Hid (Below w.heap.size w w3):=I.trans (((zaa _ _).trans (F.mono (by simp))).mono I.size);clear F)
    go_roundg (n-(k+1))
    case measure=>omega
    case rel =>
     refine⟨k+1,by omega,by omega,by go_num,T.out,(show Hid _ from fun i hi=>?_)⟩;by_cases e:i=k
     ·rw[e,HE.out]
     ·exact O.out i (by omega)
   ·have hz:(E == 0)=false:=(by simp[Z]);have FB:Hid (zan ((List.range n).map f)=E):=U.out Z;clear U
    go_wp2_with (go_at_fn K;refine(D.out _ ?nd).mono ?_;(case nd=>exact zaa _ _);rintro e w3 ⟨rfl,F⟩;have T:Hid (Below w.heap.size w w3):=I.trans (((zaa _ _).trans (F.mono (by simp))).mono I.size);clear F)
    go_ret;exact⟨by rw[FB.out];rfl,T.out⟩
  ·have:k=n:=(by omega);subst this
   go_wp2
   go_ret;exact⟨by rw[zea O.out];rfl,I⟩
theorem zwQ{α:Type}(d:α){n:Nat}{P:Nat->α->Prop}(h:∀ i,i<n->∃ a,P i a):∃ f:Nat->α,∀ i,i<n->P i (f i):=by
 refine⟨fun i=>if hi:i<n then Classical.choose (h i hi) else d,fun i hi=>?_⟩;dsimp only;rw[dif_pos hi];exact Classical.choose_spec (h i hi)
abbrev zBp(w:World)(a:Option Addr)(rs:List Rl)(i:Nat)(A:RA):Prop:=(∃ b o,a=some ⟨b,o,none⟩/\w.cell? ⟨b,o+i*4,none⟩=some (.slice A.a0 (rl rs i).s.length A.c0)/\w.cell? ⟨b,o+i*4+1,none⟩=some (.slice A.a1 (rl rs i).hs.length A.c1)/\w.cell? ⟨b,o+i*4+2,none⟩=some (.slice A.a2 (rl rs i).i.length A.c2)/\w.cell? ⟨b,o+i*4+3,none⟩=some (.slice A.a3 (rl rs i).t.length A.c3))/\zcZ w A (rl rs i)
abbrev zBn(w:World)(a:Option Addr)(ps:List (List Ac))(i:Nat)(A:Option Addr × Nat):Prop:=(∃ b o,a=some ⟨b,o,none⟩/\w.cell? ⟨b,o+i,none⟩=some (.slice A.1 (pg ps i).length A.2))/\zbX w A.1 (pg ps i)
abbrev zBo(w:World)(a:Option Addr)(qs:List (List Ml))(i:Nat)(A:Option Addr × Nat):Prop:=(∃ b o,a=some ⟨b,o,none⟩/\w.cell? ⟨b,o+i,none⟩=some (.slice A.1 (qu qs i).length A.2))/\zeW w A.1 (qu qs i)
theorem ziN{w:World}{a:Option Addr}{rs:List Rl}(D:znM w a rs):∃ f:Nat->RA,∀ i,i<rs.length->zBp w a rs i (f i):=zwQ (P:=zBp w a rs) ⟨none,none,none,none,0,0,0,0⟩ (fun i hi=>by
 obtain⟨b,o,A,e,E,F,I,J,D⟩:=D i hi;exact⟨A,⟨b,o,e,E,F,I,J⟩,D⟩)
theorem ziL{w:World}{a:Option Addr}{ps:List (List Ac)}(E:znK w a ps):∃ f:Nat->Option Addr × Nat,∀ i,i<ps.length->zBn w a ps i (f i):=zwQ (P:=zBn w a ps) (none,0) (fun i hi=>by
 obtain⟨b,o,pa,pc,e,F,D⟩:=E i hi;exact⟨(pa,pc),⟨b,o,e,F⟩,D⟩)
theorem ziM{w:World}{a:Option Addr}{qs:List (List Ml)}(E:znL w a qs):∃ f:Nat->Option Addr × Nat,∀ i,i<qs.length->zBo w a qs i (f i):=zwQ (P:=zBo w a qs) (none,0) (fun i hi=>by
 obtain⟨b,o,pa,pc,e,F,_,D⟩:=E i hi;exact⟨(pa,pc),⟨b,o,e,F⟩,D⟩)
def zmh(K:Nat)(D:Array Value)(w:World)(R:Rl)(x:Ac)(q:Rs):Prop:=∀ (d h g:Nat) (A:RA) (V:World),WI w R d h g A V ->
 yM K (#[.pointer (some ⟨d,0,none⟩),acV x] ++ D) V fun e E=>∃ o:Int,e=.returned (.tuple #[.int .i64 o,.int .i64 q.e])/\Below w.heap.size w E/\(q.e=0->o=q.o/\∃ B:RA,E.heap[d]?=some (bxR B q.r)/\RlF w.heap.size d E B q.r)
theorem zlk(E:Int)(Q:Rl)(o:Int):(ans E Q o).e=E:=by
 unfold ans;by_cases h:E=0
 ·rw[yb h];exact h.symm
 ·rw[ya h]
theorem zlj{E:Int}(h:E=0)(Q:Rl)(o:Int):ans E Q o=⟨0,Q,o⟩:=yb h
theorem WI.rl{w V:World}{R:Rl}{d h g:Nat}{A:RA}(I:WI w R d h g A V):RlF w.heap.size d V A R :=
 ⟨I.a3,I.c3,I.t0,I.td,I.tr,fun E D=>⟨by rw[I.a0];exact I.own.st.less (fun b F=>by omega) E D,by rw[I.a1];exact zfl (I.row.of_block (D.block h I.row.lt (by have:=I.h0;have:=I.dh;have:=I.th;omega))),I.cls.less (fun b F=>by omega) E D⟩⟩
theorem WI.store{w V:World}{R:Rl}{d h g:Nat}{A:RA}(I:WI w R d h g A V){a:Option Addr}{T:List Nd}(c:Nat){N:Nat}(hn:St (fun b=>b<N) (fun V=>zai V a T) V)(O:w.heap.size<=N/\d<N/\h<N/\tOf A<N) :
  Below w.heap.size w (V.setCell ⟨d,0,none⟩ (.slice a T.length c))/\(V.setCell ⟨d,0,none⟩ (.slice a T.length c)).heap[d]?=some (bxR ⟨a,A.a1,A.a2,A.a3,c,A.c1,A.c2,A.c3⟩ ⟨T,R.hs,R.i,R.t⟩)/\RlF w.heap.size d (V.setCell ⟨d,0,none⟩ (.slice a T.length c)) ⟨a,A.a1,A.a2,A.a3,c,A.c1,A.c2,A.c3⟩ ⟨T,R.hs,R.i,R.t⟩:=by
 have J:∀ X:Nat->Prop,X d->zaq X V (V.setCell ⟨d,0,none⟩ (.slice a T.length c)):=fun X U=>zaq.set V _ U;have D:=I.rl;refine⟨I.bel.setCell I.d0 _,zaS I.box,D.a3,D.c3,D.t0,D.td,D.tr.setOther D.td _,fun E F=>⟨hn E ((J _ O.2.1).trans (F.mono (fun b M=>?_))),(D.st E ((J _ (Or.inr (Or.inl rfl))).trans F)).2⟩⟩;have Z:b<w.heap.size\/b=d\/b=tOf A:=M;show b<N;omega
theorem zpV{V:World}{h:Nat}{hs:List (Int × Int)}(E:V.rowIs h 61 (hs.length*2) (hcF hs)){k:Nat}(D:k<hs.length)(y:Int × Int):((V.setCell ⟨h,k*2,none⟩ (.int .i64 y.1)).setCell ⟨h,k*2+1,none⟩ (.int .i64 y.2)).rowIs h 61 ((hs.set k y).length*2) (hcF (hs.set k y)):=by
 rw[List.length_set,<- zyA hs k y D];exact(E.set (k*2) _).set (k*2+1) _
theorem zpQ{X:Nat->Prop}{h:Nat}(V:World)(D:X h)(o E:Nat)(u v:Value):zaq X V ((V.setCell ⟨h,o,none⟩ u).setCell ⟨h,E,none⟩ v):=(zaq.set V u D).trans (zaq.set _ v D)
theorem WI.setHand{w V:World}{R:Rl}{d h g:Nat}{A:RA}(I:WI w R d h g A V){k:Nat}(O:k<R.hs.length)(y:Int × Int){D:World}(M:D=(V.setCell ⟨h,k*2,none⟩ (.int .i64 y.1)).setCell ⟨h,k*2+1,none⟩ (.int .i64 y.2)) :
  Below w.heap.size w D/\D.heap[d]?=some (bxR A ⟨R.s,R.hs.set k y,R.i,R.t⟩)/\RlF w.heap.size d D A ⟨R.s,R.hs.set k y,R.i,R.t⟩:=by
 subst M;have h1:=zpV I.row O y;have E:=I.box;have J:=zpQ (X:=fun b=>b<w.heap.size\/b=d\/b=h\/b=tOf A) V (Or.inr (Or.inr (Or.inl rfl))) (k*2) (k*2+1) (.int .i64 y.1) (.int .i64 y.2);refine⟨(I.bel.setCell I.h0 _).setCell I.h0 _,?_,I.a3,I.c3,I.t0,I.td,(I.tr.setOther I.th _).setOther I.th _,fun D F=>⟨by rw[I.a0];exact I.own.st D (J.trans (F.mono (fun b E=>by omega))),by rw[I.a1];exact zfl (h1.of_block (F.block h h1.lt (by have:=I.h0;have:=I.dh;have:=I.th;omega))),I.cls D ((J.mono (fun b E=>by omega)).trans (F.mono (fun b E=>by omega)))⟩⟩;rw[yv _ _ _ _ (Ne.symm I.dh),yv _ _ _ _ (Ne.symm I.dh),E];dsimp only[bxR];rw[List.length_set]
theorem WI.storeHand{w V:World}{R:Rl}{d h g:Nat}{A:RA}(I:WI w R d h g A V){a:Option Addr}{T:List Nd}(c:Nat){N:Nat}(hn:St (fun b=>b<N) (fun V=>zai V a T) V)(E:w.heap.size<=N/\d<N/\h<N/\tOf A<N){k:Nat}(hk:k<R.hs.length)(y:Int × Int){D:World}(hV:D=((V.setCell ⟨d,0,none⟩ (.slice a T.length c)).setCell ⟨h,k*2,none⟩ (.int .i64 y.1)).setCell ⟨h,k*2+1,none⟩ (.int .i64 y.2)) :
  Below w.heap.size w D/\D.heap[d]?=some (bxR ⟨a,A.a1,A.a2,A.a3,c,A.c1,A.c2,A.c3⟩ ⟨T,R.hs.set k y,R.i,R.t⟩)/\RlF w.heap.size d D ⟨a,A.a1,A.a2,A.a3,c,A.c1,A.c2,A.c3⟩ ⟨T,R.hs.set k y,R.i,R.t⟩:=by
 subst hV;obtain⟨U,x1,r1⟩:=I.store c hn E;have h1:=zpV (I.row.setOther (a:=⟨d,0,none⟩) I.dh (.slice a T.length c)) hk y;have M:∀ X:Nat->Prop,X d->zaq X V (V.setCell ⟨d,0,none⟩ (.slice a T.length c)):=fun X J=>zaq.set V _ J;have O:=fun X (J:X h)=>zpQ (X:=X) (V.setCell ⟨d,0,none⟩ (.slice a T.length c)) J (k*2) (k*2+1) (.int .i64 y.1) (.int .i64 y.2);refine⟨(U.setCell I.h0 _).setCell I.h0 _,?_,r1.a3,r1.c3,r1.t0,r1.td,(r1.tr.setOther (a:=⟨h,k*2,none⟩) I.th _).setOther (a:=⟨h,k*2+1,none⟩) I.th _,fun D F=>⟨hn D (((M _ E.2.1).trans (O _ E.2.2.1)).trans (F.mono (fun b Z=>?_))),?_,I.cls D (((M _ (Or.inr (Or.inl rfl))).trans (O _ (Or.inr (Or.inr (Or.inl rfl))))).trans (F.mono (fun b E=>?_)))⟩⟩
 ·rw[yv _ _ _ _ (Ne.symm I.dh),yv _ _ _ _ (Ne.symm I.dh),x1];dsimp only[bxR];rw[List.length_set]
 ·have h4:b<w.heap.size\/b=d\/b=tOf A:=Z;show b<N;omega
 ·show zas _ A.a1 _;rw[I.a1];exact zfl (h1.of_block (F.block h h1.lt (by show ¬ (h<w.heap.size\/h=d\/h=tOf A);have:=I.h0;have:=I.dh;have:=I.th;omega)))
 ·have h4:b<w.heap.size\/b=d\/b=tOf A:=E;omega
theorem WI.setMark{w V:World}{R:Rl}{d h g:Nat}{A:RA}(I:WI w R d h g A V){k:Nat}(T:k<R.s.length)(n:Int){D:World}(M:D=V.setCell ⟨g,k*8+3,none⟩ (.int .i64 n)) :
  Below w.heap.size w D/\D.heap[d]?=some (bxR A ⟨R.s.set k { nd R.s k with m:=n },R.hs,R.i,R.t⟩)/\RlF w.heap.size d D A ⟨R.s.set k { nd R.s k with m:=n },R.hs,R.i,R.t⟩:=by
 subst M;obtain⟨F,J,hg,U⟩:=I.gs;have r1:=I.row.setOther (a:=⟨g,k*8+3,none⟩) hg (.int .i64 n);refine⟨I.bel.setCell F _,?_,I.a3,I.c3,I.t0,I.td,I.tr.setOther U _,fun D E=>⟨by rw[I.a0];exact(I.own.mark T n).st D (E.mono (fun b O=>by omega)),by rw[I.a1];exact zfl (r1.of_block (E.block h r1.lt (by have:=I.h0;have:=I.dh;have:=I.th;omega))),I.cls D ((zaq.set V _ (by omega)).trans (E.mono (fun b O=>by omega)))⟩⟩;rw[yv _ _ _ _ (Ne.symm J),I.box];dsimp only[bxR];rw[List.length_set]
theorem zBh{V D w3:World}{a:Option Addr}{T:List Nd}(c t:Nat)(E:Below V.heap.size V D)(F:Below D.heap.size D w3)(J:St (fun b=>b<D.heap.size) (fun V=>zai V a T) w3) :
  Hid (Below V.heap.size V (w3.alloc (.cells #[.slice a T.length c] t)))/\Hid (St (fun b=>b<V.heap.size) (fun V=>zai V a T) (w3.alloc (.cells #[.slice a T.length c] t)))/\(w3.alloc (.cells #[.slice a T.length c] t)).cell? ⟨w3.heap.size,0,none⟩=some (.slice a T.length c)/\V.heap.size<=w3.heap.size:=by
 have b:=E.trans (F.mono E.size);have M:=E.size;exact⟨b.trans ((zaa _ _).mono b.size),(J.less (fun b I=>by show b<D.heap.size;have:b<V.heap.size:=I;omega)).off (zaq.of_below (zaa _ _)),zad _ _ _ 0 rfl,b.size⟩
theorem zBi{V D w3:World}{a:Option Addr}{T:List Nd}(c:Nat){t:Nat}(E:Below V.heap.size V D)(F:Below D.heap.size D w3)(J:St (fun b=>b<D.heap.size+1) (fun V=>zai V a T) w3)(M:w3.heap[D.heap.size]?=some (.cells #[.slice none 0 0] t (0,0))) :
  Hid (Below V.heap.size V (w3.setCell ⟨D.heap.size,0,none⟩ (.slice a T.length c)))/\Hid (St (fun b=>b<V.heap.size) (fun V=>zai V a T) (w3.setCell ⟨D.heap.size,0,none⟩ (.slice a T.length c)))/\(w3.setCell ⟨D.heap.size,0,none⟩ (.slice a T.length c)).cell? ⟨D.heap.size,0,none⟩=some (.slice a T.length c)/\V.heap.size<=D.heap.size:=by
 have b:=E.trans (F.mono E.size);have O:=E.size;exact⟨b.setCell E.size _,(J.off (zaq.set w3 _ (by show D.heap.size<D.heap.size+1;omega))).less (fun b I=>by show b<D.heap.size+1;have:b<V.heap.size:=I;omega),zaJ (zaS (i:=0) M),E.size⟩
theorem zkA(F:Nat)(eg:∀ args w,(callFunc F args).run Tryz.prog w=.ok (.enter F args) w)(cb:Nat)(w:World)(hc:w.cell? ⟨cb,0,none⟩=some (.func (.func F) #[] #[]))(R:Rl)(x:Ac)(hl:R.hs.length=16)(ha:isH x.a)(T:List Nd)(E:Int)(hF:znO F R.s (rS E T) #[hdV (hd R x.a)] E) :
  zmh 183 #[.pointer (some ⟨cb,0,none⟩)] w R x (ans E ⟨T,R.hs,R.i,R.t⟩ 0):=fun d h g A V I=>by
 rw[zlk];obtain⟨a0,a1,a2,a3,c0,c1,c2,c3⟩:=A;obtain rfl:a0=some ⟨g,0,none⟩:=I.a0;obtain rfl:a1=some ⟨h,0,none⟩:=I.a1;obtain⟨xk,xa,xb,xc,xn⟩:=x;obtain⟨p,hp,b2⟩:=zmk ha;dsimp only at hp;subst hp;obtain⟨u0,u1⟩:=I.hand (k:=p) (by omega);have II:Hid (WI w R d h g _ V):=I;have D:Hid (∀ W,Below V.heap.size V W->yM F #[.agg #[.slice (some ⟨g,0,none⟩) R.s.length c0],.agg #[.int .i64 (hd R (p:Int)).1,.int .i64 (hd R (p:Int)).2]] W fun e w' => ∃ a' c', e=.returned (.tuple #[.agg #[.slice a' (rS E T).length c'],.int .i64 E])/\Below W.heap.size W w' /\ St (fun b=>b<W.heap.size) (fun V=>zai V a' (rS E T)) w'):=fun W hW=>hF (some ⟨g,0,none⟩) c0 W (I.nds.below hW);have k0:=(I.bel.cell (yd _ _ hc)).trans hc;obtain⟨l0,l1,l2,l3,fz,lt⟩:=zak I.box;dsimp only at l0 l1 l2 l3;rw[hl] at l1;clear hF;generalize hd R (p:Int)=hh at *;obtain⟨P,U⟩:=hh;have a9:d<V.heap.size:=lt;have b0:h<V.heap.size:=yd _ _ u0;have a8:cb<V.heap.size:=yd _ _ k0;show yM _ #[.pointer (some ⟨d,0,none⟩),.agg #[.int .i64 xk,.int .i64 p,.int .i64 xb,.int .i64 xc,.int .i64 xn],.pointer (some ⟨cb,0,none⟩)] V _;clear hl ha I hc;obtain⟨ns,b1⟩:∃ n,R.s.length=n:=⟨_,rfl⟩;rw[b1] at D l0;have b5:(p:Int)<16:=by omega
 go_enter Tryz.func183,Tryz.ntmps183
 go_upto_region 1 with fail
 obtain⟨J,a6⟩:∃ J,V.alloc (.cells #[.int .i64 xk,.int .i64 p,.int .i64 xb,.int .i64 xc,.int .i64 xn] 36)=J:=⟨_,rfl⟩;have BV:Hid (Below V.heap.size V J):=by rw[<- a6];exact zaa _ _
 have y1:J.cell? ⟨V.heap.size,1,none⟩=some (.int .i64 p):=by rw[<- a6];exact zad _ _ _ 1 rfl
 have sV:V.heap.size<J.heap.size:=yd _ _ y1;rw[a6];clear a6;replace u0:=zab u0 BV.out;replace u1:=zab u1 BV.out;replace l0:=zab l0 BV.out;replace l1:=zab l1 BV.out;replace k0:=zab k0 BV.out;have b4:d<V.heap.size:=lt;have n1:¬ J.heap.size=cb:=by omega
 have n2:¬ J.heap.size=d:=by omega
 have n3:¬ J.heap.size=h:=by omega
 have n4:¬ J.heap.size=V.heap.size:=by omega
 have b6:¬ cb=J.heap.size:=by omega
 have b7:¬ d=J.heap.size:=by omega
 have b8:¬ h=J.heap.size:=by omega
 have b9:¬ V.heap.size=J.heap.size:=by omega
 replace a9:d<J.heap.size:=by omega
 replace b0:h<J.heap.size:=by omega
 replace a8:cb<J.heap.size:=by omega
 clear l2 l3 fz lt
 go_cut [7,8] (fun s7 s8 wx=>∃ (b:Nat) (a' : Option Addr) (c' : Nat),s7=.pointer (some ⟨b,0,none⟩)/\s8=.int .i64 E/\Hid (Below V.heap.size V wx)/\Hid (St (fun b=>b<V.heap.size) (fun V=>zai V a' (rS E T)) wx)/\wx.cell? ⟨b,0,none⟩=some (.slice a' (rS E T).length c')/\V.heap.size<=b)
 case first =>
  go_region_held3 (fun Z=>Z.cell? ⟨cb,0,none⟩=some (.func (.func F) #[] #[])/\Z.cell? ⟨d,0,none⟩=some (.slice (some ⟨g,0,none⟩) ns c0)/\Z.cell? ⟨d,1,none⟩=some (.slice (some ⟨h,0,none⟩) 16 c1)/\Z.cell? ⟨h,p*2,none⟩=some (.int .i64 P)/\Z.cell? ⟨h,p*2+1,none⟩=some (.int .i64 U)/\Z.cell? ⟨V.heap.size,1,none⟩=some (.int .i64 p)) (go_keep) (first|(refine ye (D.out J.drew BV.out.drew) ?_;rintro e w3 ⟨a', c', rfl,O,a5⟩;have M:Hid (Below J.heap.size J w3):=(yk _ _).drew.trans O;have N3:Hid (St (fun b=>b<J.heap.size) (fun V=>zai V a' (rS E T)) w3):=a5;have g0:=zab k0 M.out;have g1:=zab l0 M.out;have g2:=zab l1 M.out;have g3:=zab u0 M.out;have g4:=zab u1 M.out;have g5:=zab y1 M.out;clear O a5)|(refine ye (D.out (J.alloc (.cells #[.slice none 0 0] 43)).drew (BV.out.trans ((zaa J _).mono BV.out.size)).drew) ?_;rintro e w3 ⟨a', c', rfl,O,a5⟩;have M:Hid (Below J.heap.size J w3):=(zaa J _).drew.trans (O.mono (by simp));have N3:Hid (St (fun b=>b<J.heap.size+1) (fun V=>zai V a' (rS E T)) w3):=(by have h:=a5;simp only[yr,World.size_drew] at h;exact h);have g0:=zab k0 M.out;have g1:=zab l0 M.out;have g2:=zab l1 M.out;have g3:=zab u0 M.out;have g4:=zab u1 M.out;have g5:=zab y1 M.out;have X3:Hid (w3.heap[J.heap.size]?=some (.cells #[.slice none 0 0] 43 (0,0))):=zaA (W:=(J.alloc (.cells #[.slice none 0 0] 43)).drew) (yL J _) O;have x3:=zaJ X3.out;have xf:=zaW (o:=0) X3.out;have xl:J.heap.size<w3.heap.size:=zaw X3.out;clear O a5))
  ·go_wp2_with fail
   go_meet
   case rel=>exact⟨_,_,_,rfl,rfl,zBh _ _ BV.out M.out N3.out⟩
  ·go_wp2_with fail
   go_meet
   case rel=>exact⟨_,_,_,rfl,rfl,zBi _ BV.out M.out N3.out X3.out⟩
 case rest =>
  obtain⟨b,a', c', rfl,rfl,HB,HN,a7,b3⟩:=hcut;have I2:Hid _:=II.out.below HB.out;have hS:=I2.out.store c' HN.out II.out.base;have HS:Hid _:=hS;obtain⟨m0,m1,m2,m3,mf,ml⟩:=zak I2.out.box;have bl:b<wc.heap.size:=yd _ _ a7;have c6:¬ b=d:=by omega
  clear hS II D u0 u1 l0 l1 k0 y1
  go_wp2
  refine yw (v:=.tuple #[.int .i64 0,.int .i64 E]) (by simp[results,Tryz.results183,go_sem]) rfl ⟨0,rfl,HS.out.1,fun hE=>?_⟩;rw[zlj hE];have h2:=HS.out.2;rw[hE,zhQ] at h2;rw[hE,zhQ];exact⟨rfl,_,h2⟩
end Go.Proofs.YtcbcpomacdngmaaGreat
