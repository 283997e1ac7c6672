/-
  x
-/
import Derived.Test.YtcbcpomacdngmaaGreatA25
namespace Go.Proofs.YtcbcpomacdngmaaGreat
set_option maxRecDepth 100000
set_option maxHeartbeats 4000000
set_option linter.unusedVariables false
open Go.RowKit Go.ChangeShapes Go.WideShapes Tryz
variable{w w2:Wd}{L M:List Pt}{g B0 B k lo hi n:Nat}{K F:Nat->Value}{v:Value}{Y:Nat->Prop}
structure EGr where
 ga:OA
 gl:Nat
 gc:Nat
def qR(x:EGr):Nat->Value
 | _=>.slice x.ga x.gl x.gc
theorem Rh(n:Nat)(hn:n<=100000)(w:Wd):(Instr.makeSlice 119 (.int .i64 (n:Int)) (.int .i64 (n:Int))).run prog w=.ok (.slice (some ⟨w.heap.size,0,none⟩) n n) (w.alloc (.cells (madeCells #[.slice none 0 0] (n*1)) 47)):=by
 have I:(prog.info? 47).map (fun i=>(i.zero,i.size,i.bytes))=some (some (.agg #[.slice none 0 0]),1,24):=oad
 obtain⟨i,hi,D,E,F⟩:=info_parts I;have h:=run_make (P:=prog) w 119 47 i _ underlying119 hi D .i64 .i64 n n oaa oaa (by rw[F];omega) oaa;rw[E] at h;simp only[yk] at h;exact h
theorem aN.putGr(h:w.rowIs g 47 (n*1) F)(x:EGr):∃ D,(w.setCell ⟨g,k,none⟩ (.slice x.ga x.gl x.gc)).rowIs g 47 (n*1) D/\(∀ j,j<1->D (k*1+j)=qR x j)/\∀ i,i<k->∀ j,j<1->D (i*1+j)=F (i*1+j):=by
 refine⟨_,h.set _ _,fun j E=>?_,fun i hi j E=>?_⟩
 ·obtain rfl:j=0:=oaa
  exact ye oaa
 ·exact yd oaa
theorem Ri(K:Nat)(eg:∀ args w,(callFunc K args).run prog w=.ok (.enter K args) w)(a:OA)(c n:Nat)(S:Nat->EGr)(R:Nat->EGr->Nat->Nat->World->Prop)(w:Wd)(hn:n<=100000)
  (hs:∀ i,i<n->∃ b o,a=some ⟨b,o,none⟩/\w.cell? ⟨b,o+i,none⟩=some (.slice (S i).ga (S i).gl (S i).gc))
  (hK:∀ i,i<n->∀ W,Bl w W->yO K #[.agg #[.slice (S i).ga (S i).gl (S i).gc]] W fun e T=>∃ y:EGr,e=.returned (.agg #[.slice y.ga y.gl y.gc])/\Below W.heap.size W T/\St (fun b=>b<W.heap.size\/T.heap.size<=b) (R i y W.heap.size T.heap.size) T) :
  yO 109 #[.slice a n c,.func (.func K) #[] #[]] w fun e w' => e=.returned (.slice (some ⟨w.heap.size,0,none⟩) n n)/\Below w.heap.size w w' /\ aN qR 47 1 n R w.heap.size n w' := by
 have HS:Hid _:=hs;have HK:Hid _:=hK;clear hs hK;have b2:=Rh n hn
 go_enter func109,ntmps109
 go_wp2
 go_loopg [13] n (fun m s13 wr=>∃ k:Nat,k<=n/\n-k<=m/\s13=.int .i64 k/\Below w.heap.size w wr/\Hid (aN qR 47 1 n R w.heap.size k wr))
 case atStart=>exact⟨0,oaa,oaa,rfl,aB _ _,(by have h:=aN.zero (cv:=qR) w #[.slice none 0 0] 47 1 n R (S 0);rw[Nat.mul_one] at h;exact h)⟩
 case round =>
  obtain⟨k,hk,hg,rfl,hb,O⟩:=hrel;by_cases J:k<n
  ·have a9:(k:Int)<(n:Int):=oaa;obtain⟨b,o,rfl,c0⟩:=HS.out k J;replace c0:=aA c0 hb;have b0:b<wr.heap.size:=yi _ _ c0;obtain⟨I,Z,F,U⟩:=O.facts;have D:Hid (∀ W,Bl wr W->Calls _ _ _ _ _):=fun W hW=>HK.out k J W (hb.trans (hW.mono hb.size));generalize S k=x at *;obtain⟨b3,b5,b4⟩:=x;dsimp only at c0 D
   go_wp2_with (go_at_fn K;refine(D _ ?nd).mono ?_;(case nd=>exact aB _ _);rintro e w3 ⟨⟨a5,a7,a6⟩,rfl,E,h3⟩;have HR:Hid _:=h3;clear h3;have M:Hid (Bl wr w3):=(aB _ _).trans (E.mono oac);have s3:Hid (wr.heap.size<=w3.heap.size):=M.size;have SZ:Hid _:=E.size;clear E;have q0:=(M.cell (by exact I)).trans (U (k) oaa);have a8:=fun o=>(M.frozen (by exact I)).trans (Z o);have b1:w.heap.size<w3.heap.size:=yC I s3.out)
   go_roundg (n-(k+1))
   case measure=>omega
   case rel =>
    refine⟨k+1,oaa,oaa,by go_num,((hb.trans (M.mono hb.size)).setCell oac _),aN.step O.out J M.out oac ?_ HR.out rfl ((aC.refl (fun b=>b=w.heap.size) _).trans (aC.set (X:=fun b=>b=w.heap.size) _ _ rfl)) (fun F U=>aN.putGr U ⟨a5,a7,a6⟩)⟩;have:=SZ.out;simpa using this
  ·have:k=n:=oaa;subst this
   go_wp2
   go_ret;exact⟨rfl,hb,O.out⟩
structure EPt where
 o:Int
 t:Int
 m:Int
 ga:OA
 gl:Nat
 gc:Nat
 h:Bool
def pQ(x:EPt):Nat->Value
 | 0=>.int .i64 x.o
 | 1=>.int .i64 x.t
 | 2=>.int .i64 x.m
 | 3=>.slice x.ga x.gl x.gc
 | _=>.bool x.h
theorem Rj(n:Nat)(hn:n<=100000)(w:Wd):(Instr.makeSlice 26 (.int .i64 (n:Int)) (.int .i64 (n:Int))).run prog w=.ok (.slice (some ⟨w.heap.size,0,none⟩) n n) (w.alloc (.cells (madeCells #[.int .i64 0,.int .i64 0,.int .i64 0,.slice none 0 0,.bool false] (n*5)) 121)):=by
 have I:(prog.info? 121).map (fun i=>(i.zero,i.size,i.bytes))=some (some (.agg #[.int .i64 0,.int .i64 0,.int .i64 0,.slice none 0 0,.bool false]),5,56):=oad
 obtain⟨i,hi,D,E,F⟩:=info_parts I;have h:=run_make (P:=prog) w 26 121 i _ underlying26 hi D .i64 .i64 n n oaa oaa (by rw[F];omega) oaa;rw[E] at h;simp only[yk] at h;exact h
theorem aN.putPt(h:w.rowIs g 121 (n*5) F)(x:EPt):∃ D,(((((w.setCell ⟨g,k*5,none⟩ (.int .i64 x.o)).setCell ⟨g,k*5+1,none⟩ (.int .i64 x.t)).setCell ⟨g,k*5+2,none⟩ (.int .i64 x.m)).setCell ⟨g,k*5+3,none⟩ (.slice x.ga x.gl x.gc)).setCell ⟨g,k*5+4,none⟩ (.bool x.h)).rowIs g 121 (n*5) D/\(∀ j,j<5->D (k*5+j)=pQ x j)/\∀ i,i<k->∀ j,j<5->D (i*5+j)=F (i*5+j):=by
 refine⟨_,((((h.set _ _).set _ _).set _ _).set _ _).set _ _,fun j E=>?_,fun i hi j E=>?_⟩
 ·rcases(by omega:j=0\/j=1\/j=2\/j=3\/j=4) with rfl|rfl|rfl|rfl|rfl
  ·rw[yd oaa,yd oaa,yd oaa,yd oaa,ye oaa];rfl
  ·rw[yd oaa,yd oaa,yd oaa,ye rfl];rfl
  ·rw[yd oaa,yd oaa,ye rfl];rfl
  ·rw[yd oaa,ye rfl];rfl
  ·rw[ye rfl];rfl
 ·rw[yd oaa,yd oaa,yd oaa,yd oaa,yd oaa]
theorem Rk(K:Nat)(eg:∀ args w,(callFunc K args).run prog w=.ok (.enter K args) w)(a:OA)(c n:Nat)(S:Nat->EPt)(R:Nat->EPt->Nat->Nat->World->Prop)(w:Wd)(hn:n<=100000)
  (hs:∀ i,i<n->∃ b o,a=some ⟨b,o,none⟩/\w.cell? ⟨b,o+i*5,none⟩=some (.int .i64 (S i).o)/\w.cell? ⟨b,o+i*5+1,none⟩=some (.int .i64 (S i).t)/\w.cell? ⟨b,o+i*5+2,none⟩=some (.int .i64 (S i).m)/\w.cell? ⟨b,o+i*5+3,none⟩=some (.slice (S i).ga (S i).gl (S i).gc)/\w.cell? ⟨b,o+i*5+4,none⟩=some (.bool (S i).h))
  (hK:∀ i,i<n->∀ W,Bl w W->yO K #[.agg #[.int .i64 (S i).o,.int .i64 (S i).t,.int .i64 (S i).m,.slice (S i).ga (S i).gl (S i).gc,.bool (S i).h]] W fun e U=>∃ y:EPt,e=.returned (.agg #[.int .i64 y.o,.int .i64 y.t,.int .i64 y.m,.slice y.ga y.gl y.gc,.bool y.h])/\Below W.heap.size W U/\St (fun b=>b<W.heap.size\/U.heap.size<=b) (R i y W.heap.size U.heap.size) U) :
  yO 107 #[.slice a n c,.func (.func K) #[] #[]] w fun e w' => e=.returned (.slice (some ⟨w.heap.size,0,none⟩) n n)/\Below w.heap.size w w' /\ aN pQ 121 5 n R w.heap.size n w' := by
 have HS:Hid _:=hs;have HK:Hid _:=hK;clear hs hK;have b2:=Rj n hn
 go_enter func107,ntmps107
 go_wp2
 go_loopg [13] n (fun m s13 wr=>∃ k:Nat,k<=n/\n-k<=m/\s13=.int .i64 k/\Below w.heap.size w wr/\Hid (aN pQ 121 5 n R w.heap.size k wr))
 case atStart=>exact⟨0,oaa,oaa,rfl,aB _ _,aN.zero w _ 121 5 n R (S 0)⟩
 case round =>
  obtain⟨k,hk,hg,rfl,hb,O⟩:=hrel;by_cases T:k<n
  ·have a9:(k:Int)<(n:Int):=oaa;obtain⟨b,o,rfl,c0,c1,c2,c3,c4⟩:=HS.out k T;replace c0:=aA c0 hb;replace c1:=aA c1 hb;replace c2:=aA c2 hb;replace c3:=aA c3 hb;replace c4:=aA c4 hb;have b0:b<wr.heap.size:=yi _ _ c0;obtain⟨E,Z,F,J⟩:=O.facts;have D:Hid (∀ W,Bl wr W->Calls _ _ _ _ _):=fun W hW=>HK.out k T W (hb.trans (hW.mono hb.size));generalize S k=x at *;obtain⟨xo,xt,xm,b3,b5,b4,xh⟩:=x;dsimp only at c0 c1 c2 c3 c4 D
   go_wp2_with (go_at_fn K;refine(D _ ?nd).mono ?_;(case nd=>exact aB _ _);rintro e w3 ⟨⟨yo,yt,ym,a5,a7,a6,yh⟩,rfl,M,h3⟩;have HR:Hid _:=h3;clear h3;have I:Hid (Bl wr w3):=(aB _ _).trans (M.mono oac);have s3:Hid (wr.heap.size<=w3.heap.size):=I.size;have SZ:Hid _:=M.size;clear M;have q0:=(I.cell (by exact E)).trans (J (k*5) oaa);have q1:=(I.cell (by exact E)).trans (J (k*5+1) oaa);have q2:=(I.cell (by exact E)).trans (J (k*5+2) oaa);have q3:=(I.cell (by exact E)).trans (J (k*5+3) oaa);have q4:=(I.cell (by exact E)).trans (J (k*5+4) oaa);have a8:=fun o=>(I.frozen (by exact E)).trans (Z o);have b1:w.heap.size<w3.heap.size:=yC E s3.out)
   go_roundg (n-(k+1))
   case measure=>omega
   case rel =>
    refine⟨k+1,oaa,oaa,by go_num,((((((hb.trans (I.mono hb.size)).setCell oac _).setCell oac _).setCell oac _).setCell oac _).setCell oac _),aN.step O.out T I.out oac ?_ HR.out rfl ((((((aC.refl (fun b=>b=w.heap.size) _).trans (aC.set (X:=fun b=>b=w.heap.size) _ _ rfl)).trans (aC.set (X:=fun b=>b=w.heap.size) _ _ rfl)).trans (aC.set (X:=fun b=>b=w.heap.size) _ _ rfl)).trans (aC.set (X:=fun b=>b=w.heap.size) _ _ rfl)).trans (aC.set (X:=fun b=>b=w.heap.size) _ _ rfl)) (fun F J=>aN.putPt J ⟨yo,yt,ym,a5,a7,a6,yh⟩)⟩;have:=SZ.out;simpa using this
  ·have:k=n:=oaa;subst this
   go_wp2
   go_ret;exact⟨rfl,hb,O.out⟩
def RGr(C:List (List Cl))(i:Nat)(y:EGr)(lo hi:Nat)(V:Wd):Prop:=y.gl=(gr C i).length/\aO V y.ga (gr C i)
theorem Rm(a:OA)(c:Nat)(C:List (List Cl))(w:Wd)(M:C.length<=1000)(hK:∀ i,i<C.length->(gr C i).length<=1000/\∀ j,j<(gr C i).length->(cl (gr C i) j).ks.length<=1000)(E:jD w a C) :
  yO 109 #[.slice a C.length c,.func (.func 104) #[] #[]] w fun e w' => e=.returned (.slice (some ⟨w.heap.size,0,none⟩) C.length C.length)/\Below w.heap.size w w' /\ aN qR 47 1 C.length (RGr C) w.heap.size C.length w' := by
 obtain⟨f,D⟩:=Classical.skolem.1 (fun i=>show ∃ x:OA × Nat,i<C.length->(∃ b o,a=some ⟨b,o,none⟩/\w.cell? ⟨b,o+i,none⟩=some (.slice x.1 (gr C i).length x.2))/\aO w x.1 (gr C i) by
  by_cases hi:i<C.length
  ·obtain⟨b,o,ga,gc,e,c0,hc⟩:=E i hi;exact⟨(ga,gc),fun _=>⟨⟨b,o,e,c0⟩,hc⟩⟩
  ·exact⟨(none,0),fun h=>absurd h hi⟩)
 refine Ri 104 (yM func104 oad rfl) a c C.length (fun i=>⟨(f i).1,(gr C i).length,(f i).2⟩) (RGr C) w oaa (fun i hi=>(D i hi).1) (fun i hi W F=>?_);refine(MX (f i).1 (f i).2 (gr C i) W (hK i hi).1 (hK i hi).2 ((D i hi).2.below F)).mono ?_;rintro e w' ⟨g,rfl,hb,hg,J⟩;exact⟨⟨some ⟨g,0,none⟩,(gr C i).length,(gr C i).length⟩,rfl,hb,fun w2 I=>⟨rfl,J w2 I⟩⟩
def oC(lo hi:Nat)(w:Wd)(v:Value)(C:List (List Cl)):Prop:=∃ b J,lo<=b/\b<hi/\v=.slice (some ⟨b,0,none⟩) C.length C.length/\w.rowIs b 47 C.length J/\∀ i,i<C.length->∃ ga gc,J i=.slice ga (gr C i).length gc/\St (fun x=>x<=b\/hi<=x) (fun w=>aO w ga (gr C i)) w
theorem oC.off{w w' : World}{C:List (List Cl)}(h:oC lo hi w v C)(F:aC Y w w')(E:∀ b,Y b->b<lo\/hi<=b):oC lo hi w' v C:=by
 obtain⟨b,J,h1,I,M,D,h5⟩:=h;refine⟨b,J,h1,I,M,D.of_block (F.block b D.lt (fun T=>by have:=E b T;omega)),fun i hi=>?_⟩;obtain⟨ga,gc,e,hs⟩:=h5 i hi;exact⟨ga,gc,e,hs.off (F.mono (fun x O=>by have:=E x O;show x<=b\/_<=x;omega))⟩
theorem oC.grs{C:List (List Cl)}(h:oC lo hi w v C)(I:C.length<=1000):mM w v C:=by
 obtain⟨b,J,h1,F,D,E,h5⟩:=h;refine⟨some ⟨b,0,none⟩,C.length,D,⟨(fun e=>by cases e),yr _,oaa⟩,fun i hi=>?_⟩;obtain⟨ga,gc,e,hs⟩:=h5 i hi;exact⟨b,0,ga,gc,rfl,by rw[yD,E.cell hi,e],hs.at⟩
theorem oC.made{C:List (List Cl)}(h:aN qR 47 1 C.length (RGr C) g C.length w)(E:lo<=g)(M:w.heap.size<=hi):oC lo hi w (.slice (some ⟨g,0,none⟩) C.length C.length) C:=by
 obtain⟨v,l,u,F,D,hv⟩:=h;have hg:=D.lt;rw[Nat.mul_one] at D;refine⟨g,F,E,oaa,rfl,D,fun i hi=>?_⟩;obtain⟨h1,O,T,U,_,I⟩:=hv i hi;obtain⟨J,_⟩:=I.at;refine⟨(v i).ga,(v i).gc,?_,(I.imp (fun V h=>h.2)).less (fun b hb=>by show b<l i\/u i<=b;have:b<=g\/_<=b:=hb;omega)⟩;have:=h1 0 oaa;rw[Nat.mul_one,Nat.add_zero] at this;rw[this,<- J];rfl
structure CpI (B:Nat) (L:List Pt) (K:Nat->Value) (lo hi:Nat->Nat) (k:Nat) (w:Wd):Prop where
 row:w.ownsRow B 121 5 (.slice (some ⟨B,0,none⟩) L.length L.length) L.length (gN L K)
 gs:∀ i,i<k->oC (lo i) (hi i) w (K i) (pt L i).cm
 at' : ∀ i,i<k->B<lo i/\hi i<=w.heap.size
 ap:∀ i j,i<k->j<k->i≠j->hi i<=lo j\/hi j<=lo i
def qU(L:List Pt):Prop:=∀ i,i<L.length->(pt L i).cm.length<=1000/\∀ j,j<(pt L i).cm.length->(gr (pt L i).cm j).length<=1000/\∀ m,m<(gr (pt L i).cm j).length->(cl (gr (pt L i).cm j) m).ks.length<=1000
def RPt(L:List Pt)(i:Nat)(y:EPt)(lo hi:Nat)(V:Wd):Prop:=y.o=(pt L i).o/\y.t=(pt L i).t/\y.m=(pt L i).m/\y.h=(pt L i).s/\oC lo hi V (.slice y.ga y.gl y.gc) (pt L i).cm
theorem WW(hN:L.length<=1000)(h:aN pQ 121 5 L.length (RPt L) g L.length w):∃ K lo hi,CpI g L K lo hi L.length w:=by
 obtain⟨v,lo,hi,F,⟨c,hb,E,I⟩,hv⟩:=h;have hg:g<w.heap.size:=aR hb;refine⟨fun i=>.slice (v i).ga (v i).gl (v i).gc,lo,hi,?_,fun i D=>(hv i D).2.2.2.2.2.at.2.2.2.2,fun i D=>⟨(hv i D).2.1,(hv i D).2.2.2.1⟩,fun i j D J M=>?_⟩
 ·have e:c.toList=gN L (fun i=>.slice (v i).ga (v i).gl (v i).gc):=LU (by simpa using E) (fun i j D J=>by
   obtain⟨O,T,U,Z,_⟩:=(hv i D).2.2.2.2.2.at;rw[Array.getElem?_toList,I (i*5+j) oaa,(hv i D).1 j J];unfold eO;rw[<- O,<- T,<- U,<- Z];rcases(by omega:j=0\/j=1\/j=2\/j=3\/j=4) with rfl|rfl|rfl|rfl|rfl <;> rfl)
  refine⟨nZ _ _,Or.inr ⟨g,L.length,c,rfl,yr _,hb,yr _,oai,E,?_⟩⟩;rw[e];exact List.take_of_length_le (by rw[nZ];exact yr _)
 ·rcases Nat.lt_or_gt_of_ne M with h|h
  ·exact Or.inl ((hv j J).2.2.2.2.1 i h)
  ·exact Or.inr ((hv i D).2.2.2.2.1 j h)
theorem Rn(x:Pt)(I:OA)(O:Nat)(w:Wd)(h1:x.cm.length<=1000)(h2:∀ i,i<x.cm.length->(gr x.cm i).length<=1000/\∀ j,j<(gr x.cm i).length->(cl (gr x.cm i) j).ks.length<=1000)(hG:jD w I x.cm) :
  yO 108 #[.agg #[.int .i64 x.o,.int .i64 x.t,.int .i64 x.m,.slice I x.cm.length O,.bool x.s]] w fun e w' => ∃ g,e=.returned (.agg #[.int .i64 x.o,.int .i64 x.t,.int .i64 x.m,.slice (some ⟨g,0,none⟩) x.cm.length x.cm.length,.bool x.s])/\Below w.heap.size w w' /\ w.heap.size<=g/\aN qR 47 1 x.cm.length (RGr x.cm) g x.cm.length w' := by
 have D:Hid (∀ W,Bl w W->Calls _ _ _ _ _):=fun W hW=>Rm I O x.cm W h1 h2 (hG.below hW);clear hG h1 h2;obtain⟨xo,xt,Z,xc,xs⟩:=x;dsimp only at D |-;generalize xc.length=l at *
 go_enter func108,ntmps108
 go_wp2_with fail
 obtain⟨V,F⟩:∃ V,(w.alloc (.cells #[.int .i64 xo,.int .i64 xt,.int .i64 Z,.slice I l O,.bool xs] 121)).alloc (.cells #[.int .i64 0,.int .i64 0,.int .i64 0,.slice none 0 0,.bool false] 121)=V:=⟨_,rfl⟩;have T:V.cell? ⟨w.heap.size,0,none⟩=some (.int .i64 xo):=by rw[<- F];exact fE _ _ _ 0 _ rfl
 have v1:V.cell? ⟨w.heap.size,1,none⟩=some (.int .i64 xt):=by rw[<- F];exact fE _ _ _ 1 _ rfl
 have v2:V.cell? ⟨w.heap.size,2,none⟩=some (.int .i64 Z):=by rw[<- F];exact fE _ _ _ 2 _ rfl
 have v3:V.cell? ⟨w.heap.size,3,none⟩=some (.slice I l O):=by rw[<- F];exact fE _ _ _ 3 _ rfl
 have v4:V.cell? ⟨w.heap.size,4,none⟩=some (.bool xs):=by rw[<- F];exact fE _ _ _ 4 _ rfl
 have J:V.cell? ⟨w.heap.size+1,0,none⟩=some (.int .i64 0):=by rw[<- F];exact fF _ _ _ 0 _ rfl
 have z1:V.cell? ⟨w.heap.size+1,1,none⟩=some (.int .i64 0):=by rw[<- F];exact fF _ _ _ 1 _ rfl
 have z2:V.cell? ⟨w.heap.size+1,2,none⟩=some (.int .i64 0):=by rw[<- F];exact fF _ _ _ 2 _ rfl
 have z3:V.cell? ⟨w.heap.size+1,3,none⟩=some (.slice none 0 0):=by rw[<- F];exact fF _ _ _ 3 _ rfl
 have z4:V.cell? ⟨w.heap.size+1,4,none⟩=some (.bool false):=by rw[<- F];exact fF _ _ _ 4 _ rfl
 have zf:∀ o,V.frozen? ⟨w.heap.size+1,o,none⟩=false:=fun o=>by rw[<- F];exact IK _ _ _ _ _
 have vf:∀ o,V.frozen? ⟨w.heap.size,o,none⟩=false:=fun o=>by rw[<- F];exact Ca _ _ _ _ _
 have M:Hid (Bl w V):=by rw[<- F];exact aM _ _ _
 have sV:w.heap.size+1<V.heap.size:=yi _ _ J;have U:w.heap.size<V.heap.size:=yi _ _ T;rw[F];clear F;refine yj (D _ M.out) ?_;rintro e w3 ⟨rfl,E,h3⟩;have H3:Hid (aN qR 47 1 l (RGr xc) V.heap.size l w3):=h3;have B3:Hid (Bl w w3):=M.trans (E.mono M.size);replace T:=aA T E;replace v1:=aA v1 E;replace v2:=aA v2 E;replace v3:=aA v3 E;replace v4:=aA v4 E;replace J:=aA J E;replace z1:=aA z1 E;replace z2:=aA z2 E;replace z3:=aA z3 E;replace z4:=aA z4 E;have fz:=fun o=>(E.frozen (show (⟨w.heap.size+1,o,none⟩:Addr).block<V.heap.size from sV)).trans (zf o);have fv:=fun o=>(E.frozen (show (⟨w.heap.size,o,none⟩:Addr).block<V.heap.size from U)).trans (vf o);have s3:w.heap.size+1<w3.heap.size:=yi _ _ J;have s30:w.heap.size<w3.heap.size:=yi _ _ T;clear E h3 zf vf
 go_wp2
 refine yz (v:=.agg #[.int .i64 xo,.int .i64 xt,.int .i64 Z,.slice (some ⟨V.heap.size,0,none⟩) l l,.bool xs]) (by simp[results,results108,go_sem,J,z1,z2,z3,z4]) rfl ⟨V.heap.size,rfl,?_,M.size,?_⟩
 ·exact(((((B3.setCell oac _).setCell oac _).setCell oac _).setCell oac _).setCell oac _).setCell oac _
 ·exact(((((H3.set oaa _).set oaa _).set oaa _).set oaa _).set oaa _).set oaa _
theorem Ro(a:OA)(c:Nat)(L:List Pt)(w:Wd)(U:L.length<=12)(D:qU L)(J:cK w a L) :
  yO 107 #[.slice a L.length c,.func (.func 108) #[] #[]] w fun e w' => e=.returned (.slice (some ⟨w.heap.size,0,none⟩) L.length L.length)/\Below w.heap.size w w' /\ aN pQ 121 5 L.length (RPt L) w.heap.size L.length w' := by
 obtain⟨f,E⟩:=Classical.skolem.1 (fun i=>show ∃ x:OA × Nat,i<L.length->(∃ b o,a=some ⟨b,o,none⟩/\w.cell? ⟨b,o+i*5,none⟩=some (.int .i64 (pt L i).o)/\w.cell? ⟨b,o+i*5+1,none⟩=some (.int .i64 (pt L i).t)/\w.cell? ⟨b,o+i*5+2,none⟩=some (.int .i64 (pt L i).m)/\w.cell? ⟨b,o+i*5+3,none⟩=some (.slice x.1 (pt L i).cm.length x.2)/\w.cell? ⟨b,o+i*5+4,none⟩=some (.bool (pt L i).s))/\jD w x.1 (pt L i).cm by
  by_cases hi:i<L.length
  ·obtain⟨b,o,e,c0,c1,c2,F,I,c3,hg,c4⟩:=J i hi;exact⟨(F,I),fun _=>⟨⟨b,o,e,c0,c1,c2,c3,c4⟩,hg.2⟩⟩
  ·exact⟨(none,0),fun h=>absurd h hi⟩)
 refine Rk 108 (yM func108 oad rfl) a c L.length (fun i=>⟨(pt L i).o,(pt L i).t,(pt L i).m,(f i).1,(pt L i).cm.length,(f i).2,(pt L i).s⟩) (RPt L) w oaa (fun i hi=>(E i hi).1) (fun i hi W M=>?_);refine(Rn (pt L i) (f i).1 (f i).2 W (D i hi).1 (D i hi).2 ((E i hi).2.below M)).mono ?_;rintro e w' ⟨g,rfl,hb,hg,T⟩;exact⟨⟨(pt L i).o,(pt L i).t,(pt L i).m,some ⟨g,0,none⟩,(pt L i).cm.length,(pt L i).cm.length,(pt L i).s⟩,rfl,hb,fun w2 O=>⟨rfl,rfl,rfl,rfl,(oC.made T hg (yr _)).off O (fun b hb=>hb)⟩⟩
theorem WX(a:OA)(c:Nat)(L:List Pt)(w:Wd)(O:L.length<=12)(I:qU L)(J:cK w a L) :
  yO 78 #[.slice a L.length c] w fun e w' => e=.returned (.slice (some ⟨w.heap.size,0,none⟩) L.length L.length)/\Below w.heap.size w w' /\ aN pQ 121 5 L.length (RPt L) w.heap.size L.length w' := by
 have D:Hid (Calls _ _ _ _ _):=Ro a c L w O I J;clear I J;generalize L.length=n at *
 go_enter func78,ntmps78
 go_wp2_with (go_at_call 107;refine D.mono ?_;rintro e w3 ⟨rfl,E,F⟩;have M:Hid _:=F;clear F)
 go_ret;exact⟨rfl,E,M.out⟩
theorem zJ(a:OA)(c:Nat)(L:List Pt)(w:Wd)(I:L.length<=12)(E:qU L)(F:cK w a L) :
  yO 78 #[.slice a L.length c] w fun e w' => ∃ K lo hi,e=.returned (.slice (some ⟨w.heap.size,0,none⟩) L.length L.length)/\Below w.heap.size w w' /\ CpI w.heap.size L K lo hi L.length w' := by
 refine(WX a c L w I E F).mono ?_;rintro e w' ⟨rfl,hb,h⟩;obtain⟨K,lo,hi,D⟩:=WW oaa h;exact⟨K,lo,hi,rfl,hb,D⟩
theorem Rq(a:OA)(c:Nat)(L:List Pt)(i:Nat)(Fr:Int)(w:Wd)(hN:L.length<=12)(hi:i<L.length)(hB:iH L)(hL:cK w a L) :
  yO 69 #[.slice a L.length c,.int .i64 (i:Int),.int .i64 Fr] w fun e w' => e=.returned (.int .i64 (fO L Fr i))/\Below w.heap.size w w' := by
 have HL:Hid (cK w a L):=hL;obtain⟨b,o,ea,c0,c1,c2,ca,cc,c3,⟨_,hk⟩,c4⟩:=hL i hi;subst ea;obtain⟨a8,a5⟩:=hB i hi;have b4:b<w.heap.size:=yi _ _ c0;have b2:(i:Int)<(L.length:Int):=oaa
 have O:Hid (∀ W,_):=fun W=>WY (pt L i).o Fr W;have M:Hid (∀ W,_):=fun W=>WZ (some ⟨b,o,none⟩) L.length c (pt L i).m W oaa;have T:Hid (∀ W,_):=fun W=>XC (pt L i).t W;have Z:Hid (∀ W,Bl w W->_):=fun W hW=>Rp (pt L i) ca cc W a8 a5 (hk.below hW);clear hL hB hk a5;by_cases I:0<=(pt L i).o/\(pt L i).o<Fr
 ·rw[yI I] at O;by_cases J:0<=(pt L i).m/\(pt L i).m<=(L.length:Int)-1
  ·rw[yI J] at M;obtain⟨q,hq⟩:=Int.eq_ofNat_of_zero_le J.1;have b1:q<L.length:=oaa;have b3:(q:Int)<(L.length:Int):=oaa;obtain⟨b', o', b0,_,_,d2,_⟩:=HL.out q b1;cases b0
   have U:Hid (fO L Fr i=if (q:Int)=i\/(pt L q).m≠i then 3 else if ¬ (0<=(pt L i).t/\(pt L i).t<=1000) then 2 else zK (pt L i).cm.length (pt L i).s (fM (pt L i).cm)):=by
    show fO L Fr i=_;unfold fO zK;rw[yd (fun h=>by rcases h with h|h;exact absurd I h;exact absurd J h),hq,yk]
   rw[hq] at c2 M Z;clear J I hq HL;rw[U.out];clear U;generalize (pt L q).m=ym at *;by_cases e1:q=i
   ·rw[ye (Or.inl oaa)];have a9:i=q:=e1.symm;clear e1;subst a9;clear Z T;generalize (pt L i).o=xo at *;generalize (pt L i).t=xt at *;generalize (pt L i).cm.length=cl at *;generalize (pt L i).s=xs at *;generalize L.length=n at *;have y1:((i:Int) ==(i:Int))=true:=oac
    go_enter func69,ntmps69
    go_wp2_with fail
    refine yj (O _) ?_;rintro e w2 ⟨rfl,D⟩;have F:=D.symm;clear D;subst F
    go_wp2_with fail
    refine yj (M _) ?_;rintro e w2 ⟨rfl,D⟩;have F:=D.symm;clear D;subst F
    go_wp2_with fail
    go_ret;exact⟨rfl,aB _ _⟩
   ·have y1:((q:Int) ==(i:Int))=false:=oab;have y2:decide ((q:Int)=(i:Int))=false:=yH oaa;have y3:decide (q=i)=false:=yH e1;by_cases e2:ym=(i:Int)
    ·rw[yd (fun h=>by rcases h with h|h;omega;exact absurd e2 h)];subst e2;by_cases hT:0<=(pt L i).t/\(pt L i).t<=1000
     ·rw[yI hT] at T;rw[yd (yL hT)];clear hT;generalize zK (pt L i).cm.length (pt L i).s (fM (pt L i).cm)=E at *;generalize (pt L i).o=xo at *;generalize (pt L i).t=xt at *;generalize (pt L i).cm.length=cl at *;generalize (pt L i).s=xs at *;generalize L.length=n at *
      go_enter func69,ntmps69
      go_wp2_with fail
      refine yj (O _) ?_;rintro e w2 ⟨rfl,D⟩;have F:=D.symm;clear D;subst F
      go_wp2_with fail
      refine yj (M _) ?_;rintro e w2 ⟨rfl,D⟩;have F:=D.symm;clear D;subst F
      go_wp2_with fail
      refine yj (T _) ?_;rintro e w2 ⟨rfl,D⟩;have F:=D.symm;clear D;subst F
      go_wp2_with fail
      refine yj (Z _ (aB _ _)) ?_;rintro e w2 ⟨rfl,a6⟩;have a7:Hid (Bl w w2):=(aB _ _).trans (a6.mono oac);clear a6
      go_wp2_with fail
      go_ret;exact⟨rfl,a7.out⟩
     ·rw[yH hT] at T;rw[ye hT];clear hT Z;generalize (pt L i).o=xo at *;generalize (pt L i).t=xt at *;generalize (pt L i).cm.length=cl at *;generalize (pt L i).s=xs at *;generalize L.length=n at *
      go_enter func69,ntmps69
      go_wp2_with fail
      refine yj (O _) ?_;rintro e w2 ⟨rfl,D⟩;have F:=D.symm;clear D;subst F
      go_wp2_with fail
      refine yj (M _) ?_;rintro e w2 ⟨rfl,D⟩;have F:=D.symm;clear D;subst F
      go_wp2_with fail
      refine yj (T _) ?_;rintro e w2 ⟨rfl,D⟩;have F:=D.symm;clear D;subst F
      go_wp2_with fail
      go_ret;exact⟨rfl,aB _ _⟩
    ·rw[ye (Or.inr e2)];have y4:(ym ==(i:Int))=false:=(by simp[e2]);have y5:decide (ym=(i:Int))=false:=yH e2;have y6:(ym !=(i:Int))=true:=(by simp[e2]);clear Z T;generalize (pt L i).o=xo at *;generalize (pt L i).t=xt at *;generalize (pt L i).cm.length=cl at *;generalize (pt L i).s=xs at *;generalize L.length=n at *
     go_enter func69,ntmps69
     go_wp2_with fail
     refine yj (O _) ?_;rintro e w2 ⟨rfl,D⟩;have F:=D.symm;clear D;subst F
     go_wp2_with fail
     refine yj (M _) ?_;rintro e w2 ⟨rfl,D⟩;have F:=D.symm;clear D;subst F
     go_wp2_with fail
     go_ret;exact⟨rfl,aB _ _⟩
  ·rw[yH J] at M
   have U:Hid (fO L Fr i=4):=by
    show fO L Fr i=_;unfold fO;rw[ye (Or.inr J)]
   rw[U.out];clear U J I Z T HL;generalize (pt L i).o=xo at *;generalize (pt L i).t=xt at *;generalize (pt L i).m=xm at *;generalize (pt L i).cm.length=cl at *;generalize (pt L i).s=xs at *;generalize L.length=n at *
   go_enter func69,ntmps69
   go_wp2_with fail
   refine yj (O _) ?_;rintro e w2 ⟨rfl,D⟩;have F:=D.symm;clear D;subst F
   go_wp2_with fail
   refine yj (M _) ?_;rintro e w2 ⟨rfl,D⟩;have F:=D.symm;clear D;subst F
   go_wp2_with fail
   go_ret;exact⟨rfl,aB _ _⟩
 ·rw[yH I] at O
  have U:Hid (fO L Fr i=4):=by
   show fO L Fr i=_;unfold fO;rw[ye (Or.inl I)]
  rw[U.out];clear U I Z T M HL;generalize (pt L i).o=xo at *;generalize (pt L i).t=xt at *;generalize (pt L i).m=xm at *;generalize (pt L i).cm.length=cl at *;generalize (pt L i).s=xs at *;generalize L.length=n at *
  go_enter func69,ntmps69
  go_wp2_with fail
  refine yj (O _) ?_;rintro e w2 ⟨rfl,D⟩;have F:=D.symm;clear D;subst F
  go_wp2_with fail
  go_ret;exact⟨rfl,aB _ _⟩
theorem NC:Ms:=fun a c L Fr w hN hB a6 hL=>by
 by_cases hm:12<L.length
 ·have e:dK L Fr=1:=by unfold dK;rw[ye hm]
  rw[e];have a5:decide ((12:Int)<(L.length:Int))=true:=yI oaa;clear hL e hB a6;generalize L.length=n at *
  go_enter func37,ntmps37
  go_wp2_with fail
  go_ret;exact⟨rfl,yv _ _⟩
 ·have e:dK L Fr=jP L Fr 0:=by unfold dK;rw[yd hm]
  rw[e];have a5:decide ((12:Int)<(L.length:Int))=false:=yH oaa;have D:Hid (∀ i,i<L.length->∀ W,Bl w W->_):=fun i hi W hW=>Rq a c L i Fr W oaa hi hB (hL.below hW);have ST:Hid (∀ i,i<L.length->jP L Fr i=if fO L Fr i=0 then jP L Fr (i+1) else fO L Fr i):=fun i hi=>Js hi;have EN:Hid (jP L Fr L.length=0):=Jt (yr _);clear hL e hB a6;obtain⟨E,hE⟩:∃ E,jP L Fr 0=E:=⟨_,rfl⟩;have HE:Hid (jP L Fr 0=E):=hE;rw[hE];clear hE;obtain⟨n,hn⟩:∃ n,L.length=n:=⟨_,rfl⟩;rw[hn] at hN hm a5 ST EN D |-;clear hn
  go_enter func37,ntmps37
  go_wp2_with fail
  go_loopg [12] n (fun g s12 wr=>∃ i:Nat,i<=n/\n-i<=g/\s12=.int .i64 i/\Hid (Bl w wr)/\Hid (jP L Fr i=E))
  case atStart=>exact⟨0,oaa,oaa,rfl,yv _ _,HE⟩
  case round =>
   obtain⟨i,hi,hg,rfl,F,I⟩:=hrel;clear HE;by_cases Z:i<n
   ·have a9:(i:Int)<(n:Int):=oaa;have Di:Hid _:=D.out i Z wr F.out;have a7:=(ST i Z).symm.trans I;have J:Hid _:=a7;clear a7 I;generalize fO L Fr i=P at *
    go_wp2_with fail
    refine yj Di.out ?_;rintro e w1 ⟨rfl,U⟩;have O:Hid (Bl w w1):=F.trans (U.mono F.size);clear U Di;by_cases T:P=0
    ·have M:Hid (jP L Fr (i+1)=E):=(by have:=J.out;rw[ye T] at this;exact this);subst T;clear J
     go_wp2_with fail
     go_roundg (n-(i+1))
     case measure=>omega
     case rel=>exact⟨i+1,oaa,oaa,by go_num,O,M⟩
    ·have M:Hid (P=E):=(by have:=J.out;rw[yd T] at this;exact this);have y1:decide (P=0)=false:=yH T;have y2:(P == 0)=false:=(by simp[T]);clear J
     go_wp2_with fail
     go_ret;exact⟨by rw[M.out];rfl,O.out⟩
   ·have e:i=n:=oaa;have a8:Hid (0=E):=(by have:=I.out;rw[e,EN.out] at this;exact this);have b0:decide ((i:Int)<(n:Int))=false:=yH oaa;clear I e
    go_wp2_with fail
    go_ret;exact⟨by rw[a8.out];rfl,F.out⟩
theorem FX(a:OA)(c:Nat)(L:List Pt)(Fr k o t:Int)(w:Wd)(hN:L.length<=9223372036854775807)(hB:iH L)(Z:SlA a L.length c)(hL:cK w a L) :
  yO 159 #[.slice a L.length c,.int .i64 Fr,.int .i64 k,.int .i64 o,.int .i64 t] w fun e w' => e=.returned (.int .i64 (aX L Fr k o t))/\Below w.heap.size w w' := by
 have J:Hid _:=NC a c L Fr w hN hB Z hL;have HL:Hid (cK w a L):=hL;clear hL hB Z;unfold aX;by_cases h1:dK L Fr=0
 ·rw[yd (yL h1)];rw[h1] at J;have a6:L.length<=12:=(qK.1 h1).few;have M:Hid (∀ W,_):=fun W=>WZ a L.length c k W oaa;by_cases U:0<=k/\k<(L.length:Int)
  ·rw[yd (yL U)];rw[yI (show 0<=k/\k<=(L.length:Int)-1 by omega)] at M;obtain⟨q,rfl⟩:=Int.eq_ofNat_of_zero_le U.1;have hq:q<L.length:=oaa;have a7:(q:Int)<(L.length:Int):=oaa;rw[yk];obtain⟨b,oo,ea,c0,c1,c2,ca,cc,c3,a5,c4⟩:=HL.out q hq;subst ea;clear h1 U a5 c2 c3 HL;generalize pt L q=x at *;obtain⟨xo,xt,xm,xc,xs⟩:=x;dsimp only at c0 c1 c4 |-;by_cases O:xo=o
   ·subst O;by_cases T:xt=t
    ·subst T;rw[yd oac];cases xs
     ·rw[yd oae];generalize L.length=n at *
      go_enter func159,ntmps159
      go_wp2_with fail
      refine yj J.out ?_;rintro e w1 ⟨rfl,hb⟩;have F:Hid (Bl w w1):=hb;replace c0:=aA c0 hb;replace c1:=aA c1 hb;replace c4:=aA c4 hb;clear hb J
      go_wp2_with fail
      refine yj (M _) ?_;rintro e w2 ⟨rfl,D⟩;have I:=D.symm;clear D;subst I
      go_wp2_with fail
      go_ret;exact⟨rfl,F.out⟩
     ·rw[ye rfl];generalize L.length=n at *
      go_enter func159,ntmps159
      go_wp2_with fail
      refine yj J.out ?_;rintro e w1 ⟨rfl,hb⟩;have F:Hid (Bl w w1):=hb;replace c0:=aA c0 hb;replace c1:=aA c1 hb;replace c4:=aA c4 hb;clear hb J
      go_wp2_with fail
      refine yj (M _) ?_;rintro e w2 ⟨rfl,D⟩;have I:=D.symm;clear D;subst I
      go_wp2_with fail
      go_ret;exact⟨rfl,F.out⟩
    ·rw[ye (Or.inr T)];have y1:decide (xt=t)=false:=yH T;have y2:(xt == t)=false:=(by simp[T]);have y3:(xt != t)=true:=(by simp[T]);generalize L.length=n at *
     go_enter func159,ntmps159
     go_wp2_with fail
     refine yj J.out ?_;rintro e w1 ⟨rfl,hb⟩;have F:Hid (Bl w w1):=hb;replace c0:=aA c0 hb;replace c1:=aA c1 hb;replace c4:=aA c4 hb;clear hb J
     go_wp2_with fail
     refine yj (M _) ?_;rintro e w2 ⟨rfl,D⟩;have I:=D.symm;clear D;subst I
     go_wp2_with fail
     go_ret;exact⟨rfl,F.out⟩
   ·rw[ye (Or.inl O)];have y1:decide (xo=o)=false:=yH O;have y2:(xo == o)=false:=(by simp[O]);have y3:(xo != o)=true:=(by simp[O]);generalize L.length=n at *
    go_enter func159,ntmps159
    go_wp2_with fail
    refine yj J.out ?_;rintro e w1 ⟨rfl,hb⟩;have F:Hid (Bl w w1):=hb;replace c0:=aA c0 hb;replace c1:=aA c1 hb;replace c4:=aA c4 hb;clear hb J
    go_wp2_with fail
    refine yj (M _) ?_;rintro e w2 ⟨rfl,D⟩;have I:=D.symm;clear D;subst I
    go_wp2_with fail
    go_ret;exact⟨rfl,F.out⟩
  ·rw[ye U];rw[yH (show ¬ (0<=k/\k<=(L.length:Int)-1) by omega)] at M;clear h1 U HL;generalize L.length=n at *
   go_enter func159,ntmps159
   go_wp2_with fail
   refine yj J.out ?_;rintro e w1 ⟨rfl,hb⟩;have F:Hid (Bl w w1):=hb;clear hb J
   go_wp2_with fail
   refine yj (M _) ?_;rintro e w2 ⟨rfl,D⟩;have I:=D.symm;clear D;subst I
   go_wp2_with fail
   go_ret;exact⟨rfl,F.out⟩
 ·rw[ye h1];have y1:decide (dK L Fr=0)=false:=yH h1;have y2:(dK L Fr == 0)=false:=by simp[h1]
  clear HL;generalize dK L Fr=E at *;generalize L.length=n at *
  go_enter func159,ntmps159
  go_wp2_with fail
  refine yj J.out ?_;rintro e w1 ⟨rfl,hb⟩;have F:Hid (Bl w w1):=hb;clear hb J
  go_wp2_with fail
  go_ret;exact⟨rfl,F.out⟩
theorem sN{Fr:Int}(R:gJ L Fr):qU L:=fun i hi=>by
 obtain⟨_,_,_,_,h5,E⟩:=kH.1 (R.ok i hi);have hg:=rY.1 E;exact⟨oaa,fun j D=>⟨by have:=(hg j D).few;omega,fun m F=>by have:=(hg j D).kids8 m F;omega⟩⟩
theorem XE(h0:B0<=B)(row:w.ownsRow B 121 5 v M.length (gN M K))(hg:∀ i,i<M.length->St (fun x=>x<B0) (fun w=>mM w (K i) (pt M i).cm) w) :
  ∃ a c,v=.slice a M.length c/\SlA a M.length c/\St (fun x=>x<B0) (fun w=>cK w a M) w:=by
 have D:∀ w', aC (fun x=>x<B0) w w' -> ∃ a c,v=.slice a M.length c/\cK w' a M:=fun w' F =>
  VL (fG row (fun j J=>F.block j (row.lt j J).2 (by show ¬ j<B0;have:=(row.lt j J).1;omega))) (fun i hi=>hg i hi w' F)
 obtain⟨a,c,e,_⟩:=D w (aC.refl _ w);refine⟨a,c,e,?_,fun w' F=>?_⟩
 ·rcases row.2 with ⟨E,hn⟩ |⟨g,cap,O,E,_,_,h1,T,_⟩
  ·rw[e] at E;simp only[Value.slice.injEq] at E;obtain⟨rfl,_,rfl⟩:=E;exact⟨fun _=>rfl,oaa,oaa⟩
  ·rw[e] at E;cases E;exact⟨(fun h=>oah),h1,by unfold maxLen at T;omega⟩
 ·obtain⟨Z,c', I,U⟩:=D w' F;rw[e] at I;cases I;exact U
theorem CpI.grs{lo hi:Nat->Nat}(h:CpI B L K lo hi L.length w)(h0:B0<=B)(E:qU L)(o:aC Y w w2){i:Nat}(D:i<L.length)(F:∀ b,Y b->b<lo i\/hi i<=b):St (fun x=>x<B0) (fun w=>mM w (K i) (pt L i).cm) w2:=fun w' I =>
 (((h.gs i D).off o F).off I (fun b hb=>Or.inl (by have:b<B0:=hb;have:=(h.at' i D).1;omega))).grs (E i D).1
theorem CpI.put{lo hi:Nat->Nat}{q:Nat}{x:Pt}(h:CpI B L K lo hi L.length w)(h0:B0<=B)(T:qU L)(hq:q<L.length)
  (row:w2.ownsRow B 121 5 (.slice (some ⟨B,0,none⟩) L.length L.length) L.length (gN (L.set q x) F)) (hK:∀ i,i≠q->F i=K i) (o:aC Y w w2) (U:∀ b,Y b->b<=B\/(lo q<=b/\b<hi q)) (hx:St (fun x=>x<B0) (fun w=>mM w (F q) x.cm) w2) :
  SlA (some ⟨B,0,none⟩) L.length L.length/\St (fun x=>x<B0) (fun w=>cK w (some ⟨B,0,none⟩) (L.set q x)) w2:=by
 have I:(L.set q x).length=L.length:=List.length_set;have E:w2.ownsRow B 121 5 (.slice (some ⟨B,0,none⟩) L.length L.length) (L.set q x).length (gN (L.set q x) F):=by rw[I];exact row
 obtain⟨a,c,e,hs,Z⟩:=XE h0 E (fun i D=>by
  rw[I] at D;by_cases e:i=q
  ·subst e;rw[NA D];exact hx
  ·rw[nT D,yd (fun J=>e J.symm),hK i e];refine h.grs h0 T o D (fun b hb=>?_);have h1:=(h.at' i D).1;rcases U b hb with M|M
   ·exact Or.inl oaa
   ·rcases h.ap i q D hq e with O|O
    ·exact Or.inr oaa
    ·exact Or.inl oaa)
 rw[I] at e hs;cases e;exact⟨hs,Z⟩
theorem CpI.cell{lo hi:Nat->Nat}(h:CpI B L K lo hi L.length w){f:Nat}(E:k<L.length)(D:f<5):w.cell? ⟨B,k*5+f,none⟩=(eO (pt L k) (K k))[f]?:=Qu h.row rfl E D
theorem zL{X:Nat->Prop}{a:OA}(D:∀ b,X b->b<B0)(h:St (fun x=>x<B0) (fun w=>cK w a M) w):bU X w a M:=h.less D
theorem jF(X:Nat->Prop)(w:Wd):bU X w none []:=fun w' _=>Mh w'
theorem jG:SlA none ([]:List Pt).length 0:=⟨fun _=>rfl,yr _,oaa⟩
theorem Rt:Nb:=fun X a c L Fr k o t w hX hN hB U hL=>by
 have Z:Hid _:=FX a c L Fr k o t w hN hB U hL.at;unfold vB;by_cases I:aX L Fr k o t=0
 ·rw[ye I,I];rw[I] at Z;obtain⟨R,q,rfl,T,_⟩:=lF I;have J:=R.few;have hF:=sN R;have DP:Hid (∀ W,Bl w W->_):=fun W hW=>zJ a c L W J hF (hL.at.below hW)
  have O:Hid (∀ (B:Nat) (F:Wd) (K:Nat->Value) (lo hi:Nat->Nat),w.heap.size<=B->CpI B L K lo hi L.length F->SlA (some ⟨B,0,none⟩) L.length L.length/\bU X ((F.setCell ⟨B,q*5+4,none⟩ (.bool true)).setCell ⟨B,q*5+3,none⟩ (.slice none 0 0)) (some ⟨B,0,none⟩) (kL L q)):=fun B F K lo hi a8 h=>by
   have a1:=vS h.row (k:=q) (f:=4) (u:=.bool true) (v:=K q) (x:={ pt L q with s:=true }) T oaa rfl;have a2:=vS a1 (k:=q) (f:=3) (u:=.slice none 0 0) (v:=.slice none 0 0) (x:={ pt L q with s:=true,cm:=[] }) (by simpa using T) oaa (by rw[NA T];simp only[if_true];rfl);rw[List.set_set] at a2;have h1:=h.put (Y:=fun b=>b=B) a8 hF T a2 (fun i hi=>by simp only[yd hi]) ((aC.set (X:=fun b=>b=B) _ _ rfl).trans (aC.set (X:=fun b=>b=B) _ _ rfl)) (fun b hb=>Or.inl (by have:b=B:=hb;omega)) (fun w' _=>by simp only[if_true];exact mM.nil w');unfold kL;rw[yk];exact⟨h1.1,zL hX h1.2⟩
  have OC:Hid (∀ (B:Nat) (F:Wd) (K:Nat->Value) (lo hi:Nat->Nat),CpI B L K lo hi L.length F->F.cell? ⟨B,q*5+3,none⟩=some (K q)/\F.cell? ⟨B,q*5+4,none⟩=some (.bool (pt L q).s)/\∀ o,F.frozen? ⟨B,o,none⟩=false):=fun B F K lo hi h=>⟨h.cell T (show 3<5 by omega),h.cell T (show 4<5 by omega),fun o=>h.row.frozenAt o⟩;have ML:Hid ((kL L q).length=L.length):=by show _=_;unfold kL;simp
  have a9:(q:Int)<(L.length:Int):=oaa
  clear hL hB U hF R I hN;generalize (pt L q).s=xs at *;generalize kL L q=M at *;obtain⟨n,hn⟩:∃ z,L.length=z:=⟨_,rfl⟩;rw[hn] at T a9 J Z DP O OC ML;rw[hn];clear hn
  go_enter func147,ntmps147
  go_wp2_with fail
  refine yj Z.out ?_;rintro e w1 ⟨rfl,a6⟩;have D:Hid (Bl w w1):=a6;clear a6 Z
  go_wp2_with fail
  refine yj (DP _ D.out) ?_;rintro e w2 ⟨K,lo,hi,rfl,a7,hc⟩;obtain⟨x3,x4,fz⟩:=OC.out _ _ _ _ _ hc;have s2:w1.heap.size<w2.heap.size:=yi _ _ x3;have FF:Hid _:=O.out _ _ _ _ _ D.size hc;have a5:Hid (Bl w ((w2.setCell ⟨w1.heap.size,q*5+4,none⟩ (.bool true)).setCell ⟨w1.heap.size,q*5+3,none⟩ (.slice none 0 0))):=((D.trans (a7.mono D.size)).setCell (show w.heap.size<=w1.heap.size from D.size) _).setCell (show w.heap.size<=w1.heap.size from D.size) _;clear a7 hc DP O OC;generalize K q=kq at *
  go_wp2_with fail
  exact yz (v:=.tuple #[.slice (some ⟨w1.heap.size,0,none⟩) n n,.int .i64 0]) (by simp[results,results147,go_sem]) rfl (by first|exact⟨_,n,by rw[ML.out],a5.out,(by rw[ML.out];exact FF.out.1),FF.out.2⟩|exact⟨_,⟨n,by rw[ML.out]⟩,a5.out,(by rw[ML.out];exact FF.out.1),FF.out.2⟩)
 ·rw[yd I];have y1:decide (aX L Fr k o t=0)=false:=yH I;have y2:(aX L Fr k o t == 0)=false:=by simp[I]
  clear hL hB U;generalize aX L Fr k o t=E at *;generalize L.length=n at *
  go_enter func147,ntmps147
  go_wp2_with fail
  refine yj Z.out ?_;rintro e w1 ⟨rfl,hb⟩;have D:Hid (Bl w w1):=hb;clear hb Z
  go_wp2_with fail
  exact yz (v:=.tuple #[.slice none 0 0,.int .i64 E]) (by simp[results,results147,go_sem]) rfl ⟨none,0,rfl,D.out,jG,jF X _⟩
theorem Ru:Mw:=fun X a c L Fr k o t D th w hX hN hB U hL=>by
 have Z:Hid _:=FX a c L Fr k o t w hN hB U hL.at;have DO:Hid (∀ W,_):=fun W=>XD Fr D th W;unfold uX;rw[Qv];by_cases O:aX L Fr k o t=0
 ·have eT:zA (aX L Fr k o t) (iI Fr D th)=iI Fr D th:=by unfold zA;rw[O];simp
  rw[eT];rw[O] at Z;obtain⟨R,q,rfl,T,_⟩:=lF O;have a5:=R.few;have hF:=sN R;by_cases hE:iI Fr D th=0
  ·rw[ye hE,hE];rw[hE] at DO;have DP:Hid (∀ W,Bl w W->_):=fun W hW=>zJ a c L W a5 hF (hL.at.below hW)
   have a6:Hid (∀ (B:Nat) (I:Wd) (K:Nat->Value) (lo hi:Nat->Nat),w.heap.size<=B->CpI B L K lo hi L.length I->SlA (some ⟨B,0,none⟩) L.length L.length/\bU X ((I.setCell ⟨B,q*5,none⟩ (.int .i64 D)).setCell ⟨B,q*5+1,none⟩ (.int .i64 th)) (some ⟨B,0,none⟩) (kJ L q D th)):=fun B I K lo hi a9 h=>by
    have a1:=vS h.row (k:=q) (f:=0) (u:=.int .i64 D) (v:=K q) (x:={ pt L q with o:=D }) T oaa rfl;have a2:=vS a1 (k:=q) (f:=1) (u:=.int .i64 th) (v:=K q) (x:={ pt L q with o:=D,t:=th }) (by simpa using T) oaa (by rw[NA T];simp only[if_true];rfl);rw[List.set_set] at a2;have oo:aC (fun b=>b=B) I ((I.setCell ⟨B,q*5,none⟩ (.int .i64 D)).setCell ⟨B,q*5+1,none⟩ (.int .i64 th)):=(aC.set (X:=fun b=>b=B) _ _ rfl).trans (aC.set (X:=fun b=>b=B) _ _ rfl);have h1:=h.put (Y:=fun b=>b=B) a9 hF T a2 (fun i hi=>by simp only[yd hi]) oo (fun b hb=>Or.inl (by have:b=B:=hb;omega)) (by simp only[if_true];exact h.grs a9 hF oo T (fun b hb=>Or.inl (by have:b=B:=hb;have:=(h.at' q T).1;omega)));unfold kJ;rw[yk];exact⟨h1.1,zL hX h1.2⟩
   have OC:Hid (∀ (B:Nat) (I:Wd) (K:Nat->Value) (lo hi:Nat->Nat),CpI B L K lo hi L.length I->I.cell? ⟨B,q*5,none⟩=some (.int .i64 (pt L q).o)/\I.cell? ⟨B,q*5+1,none⟩=some (.int .i64 (pt L q).t)/\∀ o,I.frozen? ⟨B,o,none⟩=false):=fun B I K lo hi h=>⟨h.cell T (show 0<5 by omega),h.cell T (show 1<5 by omega),fun o=>h.row.frozenAt o⟩;have ML:Hid ((kJ L q D th).length=L.length):=(by show _=_;unfold kJ;simp);have b2:(q:Int)<(L.length:Int):=oaa;clear hL hB U hF R O hN eT hE;generalize (pt L q).o=xo at *;generalize (pt L q).t=xt at *;generalize kJ L q D th=M at *;obtain⟨n,hn⟩:∃ z,L.length=z:=⟨_,rfl⟩;rw[hn] at T b2 a5 Z DP a6 OC ML;rw[hn];clear hn
   go_enter func144,ntmps144
   go_wp2_with fail
   refine yj Z.out ?_;rintro e w1 ⟨rfl,b0⟩;have F:Hid (Bl w w1):=b0;clear b0 Z
   go_wp2_with fail
   refine yj (DO _) ?_;rintro e w2 ⟨rfl,J⟩;have a7:=J.symm;clear J;subst a7
   go_wp2_with fail
   refine yj (DP _ F.out) ?_;rintro e w2 ⟨K,lo,hi,rfl,b1,hc⟩;obtain⟨x3,x4,fz⟩:=OC.out _ _ _ _ _ hc;have s2:w1.heap.size<w2.heap.size:=yi _ _ x3;have FF:Hid _:=a6.out _ _ _ _ _ F.size hc;have a8:Hid (Bl w ((w2.setCell ⟨w1.heap.size,q*5,none⟩ (.int .i64 D)).setCell ⟨w1.heap.size,q*5+1,none⟩ (.int .i64 th))):=((F.trans (b1.mono F.size)).setCell (show w.heap.size<=w1.heap.size from F.size) _).setCell (show w.heap.size<=w1.heap.size from F.size) _;clear b1 hc DP a6 OC
   go_wp2_with fail
   exact yz (v:=.tuple #[.slice (some ⟨w1.heap.size,0,none⟩) n n,.int .i64 0]) (by simp[results,results144,go_sem]) rfl (by first|exact⟨_,n,by rw[ML.out],a8.out,(by rw[ML.out];exact FF.out.1),FF.out.2⟩|exact⟨_,⟨n,by rw[ML.out]⟩,a8.out,(by rw[ML.out];exact FF.out.1),FF.out.2⟩)
  ·rw[yd hE];have y1:decide (iI Fr D th=0)=false:=yH hE;have y2:(iI Fr D th == 0)=false:=(by simp[hE]);clear hL hB U hF R O eT;generalize iI Fr D th=E at *;generalize L.length=n at *
   go_enter func144,ntmps144
   go_wp2_with fail
   refine yj Z.out ?_;rintro e w1 ⟨rfl,hb⟩;have F:Hid (Bl w w1):=hb;clear hb Z
   go_wp2_with fail
   refine yj (DO _) ?_;rintro e w2 ⟨rfl,J⟩;have a7:=J.symm;clear J;subst a7
   go_wp2_with fail
   exact yz (v:=.tuple #[.slice none 0 0,.int .i64 E]) (by simp[results,results144,go_sem]) rfl ⟨none,0,rfl,F.out,jG,jF X _⟩
 ·have eT:zA (aX L Fr k o t) (iI Fr D th)=aX L Fr k o t:=by unfold zA;rw[ye O]
  rw[eT,yd O];have y1:decide (aX L Fr k o t=0)=false:=yH O;have y2:(aX L Fr k o t == 0)=false:=by simp[O]
  clear hL hB U DO eT;generalize aX L Fr k o t=E at *;generalize L.length=n at *
  go_enter func144,ntmps144
  go_wp2_with fail
  refine yj Z.out ?_;rintro e w1 ⟨rfl,hb⟩;have F:Hid (Bl w w1):=hb;clear hb Z
  go_wp2_with fail
  exact yz (v:=.tuple #[.slice none 0 0,.int .i64 E]) (by simp[results,results144,go_sem]) rfl ⟨none,0,rfl,F.out,jG,jF X _⟩
