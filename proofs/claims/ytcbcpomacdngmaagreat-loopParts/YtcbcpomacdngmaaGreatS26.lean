/-
  x
-/
import Derived.Test.YtcbcpomacdngmaaGreatS24
namespace Go.Proofs.YtcbcpomacdngmaaGreat
set_option maxRecDepth 100000
set_option maxHeartbeats 4000000
set_option linter.unusedVariables false
open Go.RowKit Go.ChangeShapes Go.WideShapes
structure EGr where
 ga:Option Addr
 gl:Nat
 gc:Nat
def zxx(x:EGr):Nat->Value
 | _=>.slice x.ga x.gl x.gc
theorem zAc(n:Nat)(hn:n<=100000)(w:World):(Instr.makeSlice 119 (.int .i64 (n:Int)) (.int .i64 (n:Int))).run Tryz.prog w=.ok (.slice (some ⟨w.heap.size,0,none⟩) n n) (w.alloc (.cells (madeCells #[.slice none 0 0] (n*1)) 47)):=by
 have I:(Tryz.prog.info? 47).map (fun i=>(i.zero,i.size,i.bytes))=some (some (.agg #[.slice none 0 0]),1,24):=by kernel_rfl
 obtain⟨i,hi,D,E,F⟩:=info_parts I;have h:=run_make (P:=Tryz.prog) w 119 47 i _ Tryz.underlying119 hi D .i64 .i64 n n (by omega) (by omega) (by rw[F];omega) (by omega);rw[E] at h;simp only[yi] at h;exact h
theorem zaC.putGr{w:World}{g n k:Nat}{F:Nat->Value}(h:w.rowIs g 47 (n*1) F)(x:EGr):∃ D,(w.setCell ⟨g,k,none⟩ (.slice x.ga x.gl x.gc)).rowIs g 47 (n*1) D/\(∀ j,j<1->D (k*1+j)=zxx x j)/\∀ i,i<k->∀ j,j<1->D (i*1+j)=F (i*1+j):=by
 refine⟨_,h.set _ _,fun j E=>?_,fun i hi j E=>?_⟩
 ·obtain rfl:j=0:=by omega
  exact yb (by omega)
 ·exact ya (by omega)
theorem zzE(K:Nat)(eg:∀ args w,(callFunc K args).run Tryz.prog w=.ok (.enter K args) w)(a:Option Addr)(c n:Nat)(S:Nat->EGr)(R:Nat->EGr->Nat->Nat->World->Prop)(w:World)(hn:n<=100000)
  (hs:∀ i,i<n->∃ b o,a=some ⟨b,o,none⟩/\w.cell? ⟨b,o+i,none⟩=some (.slice (S i).ga (S i).gl (S i).gc))
  (hK:∀ i,i<n->∀ W,Below w.heap.size w W->yM K #[.agg #[.slice (S i).ga (S i).gl (S i).gc]] W fun e U=>∃ y:EGr,e=.returned (.agg #[.slice y.ga y.gl y.gc])/\Below W.heap.size W U/\St (fun b=>b<W.heap.size\/U.heap.size<=b) (R i y W.heap.size U.heap.size) U) :
  yM 109 #[.slice a n c,.func (.func K) #[] #[]] w fun e w' => e=.returned (.slice (some ⟨w.heap.size,0,none⟩) n n)/\Below w.heap.size w w' /\ zaC zxx 47 1 n R w.heap.size n w' := by
 have HS:Hid _:=hs;have HK:Hid _:=hK;clear hs hK;have b3:=zAc n hn
 go_enter Tryz.func109,Tryz.ntmps109
 go_wp2
 go_loopg [13] n (fun m s13 wr=>∃ k:Nat,k<=n/\n-k<=m/\s13=.int .i64 k/\Below w.heap.size w wr/\Hid (zaC zxx 47 1 n R w.heap.size k wr))
 case atStart=>exact⟨0,by omega,by omega,rfl,zaa _ _,(by have h:=zaC.zero (cv:=zxx) w #[.slice none 0 0] 47 1 n R (S 0);rw[Nat.mul_one] at h;exact h)⟩
 case round =>
  obtain⟨k,hk,hg,rfl,M,O⟩:=hrel;by_cases J:k<n
  ·have b0:(k:Int)<(n:Int):=(by omega);obtain⟨b,o,rfl,c0⟩:=HS.out k J;replace c0:=zab c0 M;have b1:b<wr.heap.size:=yd _ _ c0;obtain⟨I,a5,F,Z⟩:=O.out.facts;have D:Hid (∀ W,Below wr.heap.size wr W->Calls _ _ _ _ _):=fun W hW=>HK.out k J W (M.trans (hW.mono M.size));generalize S k=x at *;obtain⟨b4,b6,b5⟩:=x;dsimp only at c0 D
   go_wp2_with (go_at_fn K;refine(D.out _ ?nd).mono ?_;(case nd=>exact zaa _ _);rintro e w3 ⟨⟨a6,a8,a7⟩,rfl,E,h3⟩;have HR:Hid _:=h3;clear h3;have T:Hid (Below wr.heap.size wr w3):=(zaa _ _).trans (E.mono (by simp));have s3:Hid (wr.heap.size<=w3.heap.size):=T.out.size;have SZ:Hid _:=E.size;clear E;have q0:=(T.out.cell (by exact I)).trans (Z (k) (by omega));have a9:=fun o=>(T.out.frozen (by exact I)).trans (a5 o);have b2:w.heap.size<w3.heap.size:=yz I s3.out)
   go_roundg (n-(k+1))
   case measure=>omega
   case rel =>
    refine⟨k+1,by omega,by omega,by go_num,((M.trans (T.out.mono M.size)).setCell (by simp) _),zaC.step O.out J T.out (by simp) ?_ HR.out rfl ((zaq.refl (fun b=>b=w.heap.size) _).trans (zaq.set (X:=fun b=>b=w.heap.size) _ _ rfl)) (fun F Z=>zaC.putGr Z ⟨a6,a8,a7⟩)⟩;have:=SZ.out;simpa using this
  ·have:k=n:=(by omega);subst this
   go_wp2
   go_ret;exact⟨rfl,M,O.out⟩
structure EPt where
 o:Int
 t:Int
 m:Int
 ga:Option Addr
 gl:Nat
 gc:Nat
 h:Bool
def zvB(x:EPt):Nat->Value
 | 0=>.int .i64 x.o
 | 1=>.int .i64 x.t
 | 2=>.int .i64 x.m
 | 3=>.slice x.ga x.gl x.gc
 | _=>.bool x.h
theorem zAg(n:Nat)(hn:n<=100000)(w:World):(Instr.makeSlice 26 (.int .i64 (n:Int)) (.int .i64 (n:Int))).run Tryz.prog w=.ok (.slice (some ⟨w.heap.size,0,none⟩) n n) (w.alloc (.cells (madeCells #[.int .i64 0,.int .i64 0,.int .i64 0,.slice none 0 0,.bool false] (n*5)) 121)):=by
 have I:(Tryz.prog.info? 121).map (fun i=>(i.zero,i.size,i.bytes))=some (some (.agg #[.int .i64 0,.int .i64 0,.int .i64 0,.slice none 0 0,.bool false]),5,56):=by kernel_rfl
 obtain⟨i,hi,D,E,F⟩:=info_parts I;have h:=run_make (P:=Tryz.prog) w 26 121 i _ Tryz.underlying26 hi D .i64 .i64 n n (by omega) (by omega) (by rw[F];omega) (by omega);rw[E] at h;simp only[yi] at h;exact h
theorem zaC.putPt{w:World}{g n k:Nat}{F:Nat->Value}(h:w.rowIs g 121 (n*5) F)(x:EPt):∃ D,(((((w.setCell ⟨g,k*5,none⟩ (.int .i64 x.o)).setCell ⟨g,k*5+1,none⟩ (.int .i64 x.t)).setCell ⟨g,k*5+2,none⟩ (.int .i64 x.m)).setCell ⟨g,k*5+3,none⟩ (.slice x.ga x.gl x.gc)).setCell ⟨g,k*5+4,none⟩ (.bool x.h)).rowIs g 121 (n*5) D/\(∀ j,j<5->D (k*5+j)=zvB x j)/\∀ i,i<k->∀ j,j<5->D (i*5+j)=F (i*5+j):=by
 refine⟨_,((((h.set _ _).set _ _).set _ _).set _ _).set _ _,fun j E=>?_,fun i hi j E=>?_⟩
 ·rcases(by omega:j=0\/j=1\/j=2\/j=3\/j=4) with rfl|rfl|rfl|rfl|rfl
  ·rw[ya (by omega),ya (by omega),ya (by omega),ya (by omega),yb (by omega)];rfl
  ·rw[ya (by omega),ya (by omega),ya (by omega),yb rfl];rfl
  ·rw[ya (by omega),ya (by omega),yb rfl];rfl
  ·rw[ya (by omega),yb rfl];rfl
  ·rw[yb rfl];rfl
 ·rw[ya (by omega),ya (by omega),ya (by omega),ya (by omega),ya (by omega)]
theorem zzI(K:Nat)(eg:∀ args w,(callFunc K args).run Tryz.prog w=.ok (.enter K args) w)(a:Option Addr)(c n:Nat)(S:Nat->EPt)(R:Nat->EPt->Nat->Nat->World->Prop)(w:World)(hn:n<=100000)
  (hs:∀ i,i<n->∃ b o,a=some ⟨b,o,none⟩/\w.cell? ⟨b,o+i*5,none⟩=some (.int .i64 (S i).o)/\w.cell? ⟨b,o+i*5+1,none⟩=some (.int .i64 (S i).t)/\w.cell? ⟨b,o+i*5+2,none⟩=some (.int .i64 (S i).m)/\w.cell? ⟨b,o+i*5+3,none⟩=some (.slice (S i).ga (S i).gl (S i).gc)/\w.cell? ⟨b,o+i*5+4,none⟩=some (.bool (S i).h))
  (hK:∀ i,i<n->∀ W,Below w.heap.size w W->yM K #[.agg #[.int .i64 (S i).o,.int .i64 (S i).t,.int .i64 (S i).m,.slice (S i).ga (S i).gl (S i).gc,.bool (S i).h]] W fun e Z=>∃ y:EPt,e=.returned (.agg #[.int .i64 y.o,.int .i64 y.t,.int .i64 y.m,.slice y.ga y.gl y.gc,.bool y.h])/\Below W.heap.size W Z/\St (fun b=>b<W.heap.size\/Z.heap.size<=b) (R i y W.heap.size Z.heap.size) Z) :
  yM 107 #[.slice a n c,.func (.func K) #[] #[]] w fun e w' => e=.returned (.slice (some ⟨w.heap.size,0,none⟩) n n)/\Below w.heap.size w w' /\ zaC zvB 121 5 n R w.heap.size n w' := by
 have HS:Hid _:=hs;have HK:Hid _:=hK;clear hs hK;have b3:=zAg n hn
 go_enter Tryz.func107,Tryz.ntmps107
 go_wp2
 go_loopg [13] n (fun m s13 wr=>∃ k:Nat,k<=n/\n-k<=m/\s13=.int .i64 k/\Below w.heap.size w wr/\Hid (zaC zvB 121 5 n R w.heap.size k wr))
 case atStart=>exact⟨0,by omega,by omega,rfl,zaa _ _,zaC.zero w _ 121 5 n R (S 0)⟩
 case round =>
  obtain⟨k,hk,hg,rfl,I,O⟩:=hrel;by_cases U:k<n
  ·have b0:(k:Int)<(n:Int):=(by omega);obtain⟨b,o,rfl,c0,c1,c2,c3,c4⟩:=HS.out k U;replace c0:=zab c0 I;replace c1:=zab c1 I;replace c2:=zab c2 I;replace c3:=zab c3 I;replace c4:=zab c4 I;have b1:b<wr.heap.size:=yd _ _ c0;obtain⟨E,a5,F,M⟩:=O.out.facts;have D:Hid (∀ W,Below wr.heap.size wr W->Calls _ _ _ _ _):=fun W hW=>HK.out k U W (I.trans (hW.mono I.size));generalize S k=x at *;obtain⟨xo,xt,xm,b4,b6,b5,xh⟩:=x;dsimp only at c0 c1 c2 c3 c4 D
   go_wp2_with (go_at_fn K;refine(D.out _ ?nd).mono ?_;(case nd=>exact zaa _ _);rintro e w3 ⟨⟨yo,yt,ym,a6,a8,a7,yh⟩,rfl,T,h3⟩;have HR:Hid _:=h3;clear h3;have J:Hid (Below wr.heap.size wr w3):=(zaa _ _).trans (T.mono (by simp));have s3:Hid (wr.heap.size<=w3.heap.size):=J.out.size;have SZ:Hid _:=T.size;clear T;have q0:=(J.out.cell (by exact E)).trans (M (k*5) (by omega));have q1:=(J.out.cell (by exact E)).trans (M (k*5+1) (by omega));have q2:=(J.out.cell (by exact E)).trans (M (k*5+2) (by omega));have q3:=(J.out.cell (by exact E)).trans (M (k*5+3) (by omega));have q4:=(J.out.cell (by exact E)).trans (M (k*5+4) (by omega));have a9:=fun o=>(J.out.frozen (by exact E)).trans (a5 o);have b2:w.heap.size<w3.heap.size:=yz E s3.out)
   go_roundg (n-(k+1))
   case measure=>omega
   case rel =>
    refine⟨k+1,by omega,by omega,by go_num,((((((I.trans (J.out.mono I.size)).setCell (by simp) _).setCell (by simp) _).setCell (by simp) _).setCell (by simp) _).setCell (by simp) _),zaC.step O.out U J.out (by simp) ?_ HR.out rfl ((((((zaq.refl (fun b=>b=w.heap.size) _).trans (zaq.set (X:=fun b=>b=w.heap.size) _ _ rfl)).trans (zaq.set (X:=fun b=>b=w.heap.size) _ _ rfl)).trans (zaq.set (X:=fun b=>b=w.heap.size) _ _ rfl)).trans (zaq.set (X:=fun b=>b=w.heap.size) _ _ rfl)).trans (zaq.set (X:=fun b=>b=w.heap.size) _ _ rfl)) (fun F M=>zaC.putPt M ⟨yo,yt,ym,a6,a8,a7,yh⟩)⟩;have:=SZ.out;simpa using this
  ·have:k=n:=(by omega);subst this
   go_wp2
   go_ret;exact⟨rfl,I,O.out⟩
def RGr(C:List (List Cl))(i:Nat)(y:EGr)(lo hi:Nat)(V:World):Prop:=y.gl=(gr C i).length/\zaI V y.ga (gr C i)
theorem znZ(a:Option Addr)(c:Nat)(C:List (List Cl))(w:World)(T:C.length<=1000)(hK:∀ i,i<C.length->(gr C i).length<=1000/\∀ j,j<(gr C i).length->(cl (gr C i) j).ks.length<=1000)(E:zfY w a C) :
  yM 109 #[.slice a C.length c,.func (.func 104) #[] #[]] w fun e w' => e=.returned (.slice (some ⟨w.heap.size,0,none⟩) C.length C.length)/\Below w.heap.size w w' /\ zaC zxx 47 1 C.length (RGr C) w.heap.size C.length w' := by
 obtain⟨f,D⟩:=Classical.skolem.1 (fun i=>show ∃ x:Option Addr × Nat,i<C.length->(∃ b o,a=some ⟨b,o,none⟩/\w.cell? ⟨b,o+i,none⟩=some (.slice x.1 (gr C i).length x.2))/\zaI w x.1 (gr C i) by
  by_cases hi:i<C.length
  ·obtain⟨b,o,ga,gc,e,c0,hc⟩:=E i hi;exact⟨(ga,gc),fun _=>⟨⟨b,o,e,c0⟩,hc⟩⟩
  ·exact⟨(none,0),fun h=>absurd h hi⟩)
 refine zzE 104 (yK Tryz.func104 (by kernel_rfl) rfl) a c C.length (fun i=>⟨(f i).1,(gr C i).length,(f i).2⟩) (RGr C) w (by omega) (fun i hi=>(D i hi).1) (fun i hi W F=>?_);refine(zhx (f i).1 (f i).2 (gr C i) W (hK i hi).1 (hK i hi).2 ((D i hi).2.below F)).mono ?_;rintro e w' ⟨g,rfl,I,hg,M⟩;exact⟨⟨some ⟨g,0,none⟩,(gr C i).length,(gr C i).length⟩,rfl,I,fun O J=>⟨rfl,M O J⟩⟩
def zvg(lo hi:Nat)(w:World)(v:Value)(C:List (List Cl)):Prop:=∃ b J,lo<=b/\b<hi/\v=.slice (some ⟨b,0,none⟩) C.length C.length/\w.rowIs b 47 C.length J/\∀ i,i<C.length->∃ ga gc,J i=.slice ga (gr C i).length gc/\St (fun x=>x<=b\/hi<=x) (fun w=>zaI w ga (gr C i)) w
theorem zvg.off{lo hi:Nat}{w w' : World}{v:Value}{C:List (List Cl)}{Y:Nat->Prop}(h:zvg lo hi w v C)(F:zaq Y w w')(E:∀ b,Y b->b<lo\/hi<=b):zvg lo hi w' v C:=by
 obtain⟨b,J,h1,I,M,D,h5⟩:=h;refine⟨b,J,h1,I,M,D.of_block (F.block b D.lt (fun T=>by have:=E b T;omega)),fun i hi=>?_⟩;obtain⟨ga,gc,e,hs⟩:=h5 i hi;exact⟨ga,gc,e,hs.off (F.mono (fun x O=>by have:=E x O;show x<=b\/_<=x;omega))⟩
theorem zvg.grs{lo hi:Nat}{w:World}{v:Value}{C:List (List Cl)}(h:zvg lo hi w v C)(I:C.length<=1000):zrV w v C:=by
 obtain⟨b,J,h1,F,D,E,h5⟩:=h;refine⟨some ⟨b,0,none⟩,C.length,D,⟨(fun e=>by cases e),yj _,by omega⟩,fun i hi=>?_⟩;obtain⟨ga,gc,e,hs⟩:=h5 i hi;exact⟨b,0,ga,gc,rfl,by rw[yB,E.cell hi,e],hs.at⟩
theorem zvg.made{lo hi g:Nat}{C:List (List Cl)}{w:World}(h:zaC zxx 47 1 C.length (RGr C) g C.length w)(E:lo<=g)(O:w.heap.size<=hi):zvg lo hi w (.slice (some ⟨g,0,none⟩) C.length C.length) C:=by
 obtain⟨v,l,u,F,D,T⟩:=h;have hg:=D.lt;rw[Nat.mul_one] at D;refine⟨g,F,E,by omega,rfl,D,fun i hi=>?_⟩;obtain⟨h1,U,Z,h4,_,I⟩:=T i hi;obtain⟨J,_⟩:=I.at;refine⟨(v i).ga,(v i).gc,?_,(I.imp (fun V h=>h.2)).less (fun b M=>by show b<l i\/u i<=b;have:b<=g\/_<=b:=M;omega)⟩;have:=h1 0 (by omega);rw[Nat.mul_one,Nat.add_zero] at this;rw[this,<- J];rfl
structure CpI (B:Nat) (L:List Pt) (K:Nat->Value) (lo hi:Nat->Nat) (k:Nat) (w:World):Prop where
 row:w.ownsRow B 121 5 (.slice (some ⟨B,0,none⟩) L.length L.length) L.length (zcb L K)
 gs:∀ i,i<k->zvg (lo i) (hi i) w (K i) (pt L i).cm
 at' : ∀ i,i<k->B<lo i/\hi i<=w.heap.size
 ap:∀ i j,i<k->j<k->i≠j->hi i<=lo j\/hi j<=lo i
def zxu(L:List Pt):Prop:=∀ i,i<L.length->(pt L i).cm.length<=1000/\∀ j,j<(pt L i).cm.length->(gr (pt L i).cm j).length<=1000/\∀ m,m<(gr (pt L i).cm j).length->(cl (gr (pt L i).cm j) m).ks.length<=1000
def RPt(L:List Pt)(i:Nat)(y:EPt)(lo hi:Nat)(V:World):Prop:=y.o=(pt L i).o/\y.t=(pt L i).t/\y.m=(pt L i).m/\y.h=(pt L i).s/\zvg lo hi V (.slice y.ga y.gl y.gc) (pt L i).cm
theorem zpq{w:World}{g:Nat}{L:List Pt}(hN:L.length<=1000)(h:zaC zvB 121 5 L.length (RPt L) g L.length w):∃ K lo hi,CpI g L K lo hi L.length w:=by
 obtain⟨v,lo,hi,F,⟨c,T,I,J⟩,E⟩:=h;have hg:g<w.heap.size:=zaw T;refine⟨fun i=>.slice (v i).ga (v i).gl (v i).gc,lo,hi,?_,fun i D=>(E i D).2.2.2.2.2.at.2.2.2.2,fun i D=>⟨(E i D).2.1,(E i D).2.2.2.1⟩,fun i j D M O=>?_⟩
 ·have e:c.toList=zcb L (fun i=>.slice (v i).ga (v i).gl (v i).gc):=zhK (by simpa using I) (fun i j D M=>by
   obtain⟨U,Z,e2,e3,_⟩:=(E i D).2.2.2.2.2.at;rw[Array.getElem?_toList,J (i*5+j) (by omega),(E i D).1 j M];unfold zcQ;rw[<- U,<- Z,<- e2,<- e3];rcases(by omega:j=0\/j=1\/j=2\/j=3\/j=4) with rfl|rfl|rfl|rfl|rfl <;> rfl)
  refine⟨zbI _ _,Or.inr ⟨g,L.length,c,rfl,yj _,T,yj _,by unfold maxLen;omega,I,?_⟩⟩;rw[e];exact List.take_of_length_le (by rw[zbI];exact yj _)
 ·rcases Nat.lt_or_gt_of_ne O with h|h
  ·exact Or.inl ((E j M).2.2.2.2.1 i h)
  ·exact Or.inr ((E i D).2.2.2.2.1 j h)
theorem zsN(x:Pt)(I:Option Addr)(O:Nat)(w:World)(h1:x.cm.length<=1000)(h2:∀ i,i<x.cm.length->(gr x.cm i).length<=1000/\∀ j,j<(gr x.cm i).length->(cl (gr x.cm i) j).ks.length<=1000)(hG:zfY w I x.cm) :
  yM 108 #[.agg #[.int .i64 x.o,.int .i64 x.t,.int .i64 x.m,.slice I x.cm.length O,.bool x.s]] w fun e w' => ∃ g,e=.returned (.agg #[.int .i64 x.o,.int .i64 x.t,.int .i64 x.m,.slice (some ⟨g,0,none⟩) x.cm.length x.cm.length,.bool x.s])/\Below w.heap.size w w' /\ w.heap.size<=g/\zaC zxx 47 1 x.cm.length (RGr x.cm) g x.cm.length w' := by
 have D:Hid (∀ W,Below w.heap.size w W->Calls _ _ _ _ _):=fun W hW=>znZ I O x.cm W h1 h2 (hG.below hW);clear hG h1 h2;obtain⟨xo,xt,Z,xc,xs⟩:=x;dsimp only at D |-;generalize xc.length=l at *
 go_enter Tryz.func108,Tryz.ntmps108
 go_wp2_with fail
 obtain⟨V,F⟩:∃ V,(w.alloc (.cells #[.int .i64 xo,.int .i64 xt,.int .i64 Z,.slice I l O,.bool xs] 121)).alloc (.cells #[.int .i64 0,.int .i64 0,.int .i64 0,.slice none 0 0,.bool false] 121)=V:=⟨_,rfl⟩;have T:V.cell? ⟨w.heap.size,0,none⟩=some (.int .i64 xo):=by rw[<- F];exact zax _ _ _ 0 _ rfl
 have v1:V.cell? ⟨w.heap.size,1,none⟩=some (.int .i64 xt):=by rw[<- F];exact zax _ _ _ 1 _ rfl
 have v2:V.cell? ⟨w.heap.size,2,none⟩=some (.int .i64 Z):=by rw[<- F];exact zax _ _ _ 2 _ rfl
 have v3:V.cell? ⟨w.heap.size,3,none⟩=some (.slice I l O):=by rw[<- F];exact zax _ _ _ 3 _ rfl
 have v4:V.cell? ⟨w.heap.size,4,none⟩=some (.bool xs):=by rw[<- F];exact zax _ _ _ 4 _ rfl
 have J:V.cell? ⟨w.heap.size+1,0,none⟩=some (.int .i64 0):=by rw[<- F];exact zay _ _ _ 0 _ rfl
 have z1:V.cell? ⟨w.heap.size+1,1,none⟩=some (.int .i64 0):=by rw[<- F];exact zay _ _ _ 1 _ rfl
 have z2:V.cell? ⟨w.heap.size+1,2,none⟩=some (.int .i64 0):=by rw[<- F];exact zay _ _ _ 2 _ rfl
 have z3:V.cell? ⟨w.heap.size+1,3,none⟩=some (.slice none 0 0):=by rw[<- F];exact zay _ _ _ 3 _ rfl
 have z4:V.cell? ⟨w.heap.size+1,4,none⟩=some (.bool false):=by rw[<- F];exact zay _ _ _ 4 _ rfl
 have zf:∀ o,V.frozen? ⟨w.heap.size+1,o,none⟩=false:=fun o=>by rw[<- F];exact ziQ _ _ _ _ _
 have vf:∀ o,V.frozen? ⟨w.heap.size,o,none⟩=false:=fun o=>by rw[<- F];exact zsp _ _ _ _ _
 have M:Hid (Below w.heap.size w V):=by rw[<- F];exact zaf _ _ _
 have sV:w.heap.size+1<V.heap.size:=yd _ _ J;have U:w.heap.size<V.heap.size:=yd _ _ T;rw[F];clear F;refine ye (D.out _ M.out) ?_;rintro e w3 ⟨rfl,E,h3⟩;have H3:Hid (zaC zxx 47 1 l (RGr xc) V.heap.size l w3):=h3;have B3:Hid (Below w.heap.size w w3):=M.out.trans (E.mono M.out.size);replace T:=zab T E;replace v1:=zab v1 E;replace v2:=zab v2 E;replace v3:=zab v3 E;replace v4:=zab v4 E;replace J:=zab J E;replace z1:=zab z1 E;replace z2:=zab z2 E;replace z3:=zab z3 E;replace z4:=zab z4 E;have fz:=fun o=>(E.frozen (show (⟨w.heap.size+1,o,none⟩:Addr).block<V.heap.size from sV)).trans (zf o);have fv:=fun o=>(E.frozen (show (⟨w.heap.size,o,none⟩:Addr).block<V.heap.size from U)).trans (vf o);have s3:w.heap.size+1<w3.heap.size:=yd _ _ J;have s30:w.heap.size<w3.heap.size:=yd _ _ T;clear E h3 zf vf
 go_wp2
 refine yw (v:=.agg #[.int .i64 xo,.int .i64 xt,.int .i64 Z,.slice (some ⟨V.heap.size,0,none⟩) l l,.bool xs]) (by simp[results,Tryz.results108,go_sem,J,z1,z2,z3,z4]) rfl ⟨V.heap.size,rfl,?_,M.out.size,?_⟩
 ·exact(((((B3.out.setCell (by simp) _).setCell (by simp) _).setCell (by simp) _).setCell (by simp) _).setCell (by simp) _).setCell (by simp) _
 ·exact(((((H3.out.set (by omega) _).set (by omega) _).set (by omega) _).set (by omega) _).set (by omega) _).set (by omega) _
theorem zqz(a:Option Addr)(c:Nat)(L:List Pt)(w:World)(Z:L.length<=12)(E:zxu L)(M:zcq w a L) :
  yM 107 #[.slice a L.length c,.func (.func 108) #[] #[]] w fun e w' => e=.returned (.slice (some ⟨w.heap.size,0,none⟩) L.length L.length)/\Below w.heap.size w w' /\ zaC zvB 121 5 L.length (RPt L) w.heap.size L.length w' := by
 obtain⟨f,F⟩:=Classical.skolem.1 (fun i=>show ∃ x:Option Addr × Nat,i<L.length->(∃ b o,a=some ⟨b,o,none⟩/\w.cell? ⟨b,o+i*5,none⟩=some (.int .i64 (pt L i).o)/\w.cell? ⟨b,o+i*5+1,none⟩=some (.int .i64 (pt L i).t)/\w.cell? ⟨b,o+i*5+2,none⟩=some (.int .i64 (pt L i).m)/\w.cell? ⟨b,o+i*5+3,none⟩=some (.slice x.1 (pt L i).cm.length x.2)/\w.cell? ⟨b,o+i*5+4,none⟩=some (.bool (pt L i).s))/\zfY w x.1 (pt L i).cm by
  by_cases hi:i<L.length
  ·obtain⟨b,o,e,c0,c1,c2,I,J,c3,hg,c4⟩:=M i hi;exact⟨(I,J),fun _=>⟨⟨b,o,e,c0,c1,c2,c3,c4⟩,hg.2⟩⟩
  ·exact⟨(none,0),fun h=>absurd h hi⟩)
 refine zzI 108 (yK Tryz.func108 (by kernel_rfl) rfl) a c L.length (fun i=>⟨(pt L i).o,(pt L i).t,(pt L i).m,(f i).1,(pt L i).cm.length,(f i).2,(pt L i).s⟩) (RPt L) w (by omega) (fun i hi=>(F i hi).1) (fun i hi W O=>?_);refine(zsN (pt L i) (f i).1 (f i).2 W (E i hi).1 (E i hi).2 ((F i hi).2.below O)).mono ?_;rintro e w' ⟨g,rfl,D,hg,U⟩;exact⟨⟨(pt L i).o,(pt L i).t,(pt L i).m,some ⟨g,0,none⟩,(pt L i).cm.length,(pt L i).cm.length,(pt L i).s⟩,rfl,D,fun w2 T=>⟨rfl,rfl,rfl,rfl,(zvg.made U hg (yj _)).off T (fun b D=>D)⟩⟩
theorem ziY(a:Option Addr)(c:Nat)(L:List Pt)(w:World)(O:L.length<=12)(I:zxu L)(J:zcq w a L) :
  yM 78 #[.slice a L.length c] w fun e w' => e=.returned (.slice (some ⟨w.heap.size,0,none⟩) L.length L.length)/\Below w.heap.size w w' /\ zaC zvB 121 5 L.length (RPt L) w.heap.size L.length w' := by
 have D:Hid (Calls _ _ _ _ _):=zqz a c L w O I J;clear I J;generalize L.length=n at *
 go_enter Tryz.func78,Tryz.ntmps78
 go_wp2_with (go_at_call 107;refine D.out.mono ?_;rintro e w3 ⟨rfl,E,F⟩;have M:Hid _:=F;clear F)
 go_ret;exact⟨rfl,E,M.out⟩
theorem zdX(a:Option Addr)(c:Nat)(L:List Pt)(w:World)(I:L.length<=12)(E:zxu L)(F:zcq w a L) :
  yM 78 #[.slice a L.length c] w fun e w' => ∃ K lo hi,e=.returned (.slice (some ⟨w.heap.size,0,none⟩) L.length L.length)/\Below w.heap.size w w' /\ CpI w.heap.size L K lo hi L.length w' := by
 refine(ziY a c L w I E F).mono ?_;rintro e w' ⟨rfl,J,h⟩;obtain⟨K,lo,hi,D⟩:=zpq (by omega) h;exact⟨K,lo,hi,rfl,J,D⟩
theorem zls(a:Option Addr)(c:Nat)(L:List Pt)(i:Nat)(Fr:Int)(w:World)(hN:L.length<=12)(hi:i<L.length)(hB:znF L)(hL:zcq w a L) :
  yM 69 #[.slice a L.length c,.int .i64 (i:Int),.int .i64 Fr] w fun e w' => e=.returned (.int .i64 (zdx L Fr i))/\Below w.heap.size w w' := by
 have HL:Hid (zcq w a L):=hL;obtain⟨b,o,ea,c0,c1,c2,ca,cc,c3,⟨_,hk⟩,c4⟩:=hL i hi;subst ea;obtain⟨a8,a5⟩:=hB i hi;have b4:b<w.heap.size:=yd _ _ c0;have b2:(i:Int)<(L.length:Int):=by omega
 have T:Hid (∀ W,_):=fun W=>zgd (pt L i).o Fr W;have O:Hid (∀ W,_):=fun W=>zkN (some ⟨b,o,none⟩) L.length c (pt L i).m W (by omega);have U:Hid (∀ W,_):=fun W=>zir (pt L i).t W;have DC:Hid (∀ W,Below w.heap.size w W->_):=fun W hW=>zlo (pt L i) ca cc W a8 a5 (hk.below hW);clear hL hB hk a5;by_cases I:0<=(pt L i).o/\(pt L i).o<Fr
 ·rw[yG I] at T;by_cases J:0<=(pt L i).m/\(pt L i).m<=(L.length:Int)-1
  ·rw[yG J] at O;obtain⟨q,hq⟩:=Int.eq_ofNat_of_zero_le J.1;have b1:q<L.length:=(by omega);have b3:(q:Int)<(L.length:Int):=(by omega);obtain⟨b', o', b0,_,_,d2,_⟩:=HL.out q b1;cases b0
   have Z:Hid (zdx L Fr i=if (q:Int)=i\/(pt L q).m≠i then 3 else if ¬ (0<=(pt L i).t/\(pt L i).t<=1000) then 2 else zsy (pt L i).cm.length (pt L i).s (zbn (pt L i).cm)):=by
    show zdx L Fr i=_;unfold zdx zsy;rw[ya (fun h=>by rcases h with h|h;exact absurd I h;exact absurd J h),hq,yi]
   rw[hq] at c2 O DC;clear J I hq HL;rw[Z.out];clear Z;generalize (pt L q).m=ym at *;by_cases e1:q=i
   ·rw[yb (Or.inl (by omega))];have a9:i=q:=e1.symm;clear e1;subst a9;clear DC U;generalize (pt L i).o=xo at *;generalize (pt L i).t=xt at *;generalize (pt L i).cm.length=cl at *;generalize (pt L i).s=xs at *;generalize L.length=n at *;have y1:((i:Int) ==(i:Int))=true:=by simp
    go_enter Tryz.func69,Tryz.ntmps69
    go_wp2_with fail
    refine ye (T.out _) ?_;rintro e M ⟨rfl,D⟩;have F:=D.symm;clear D;subst F
    go_wp2_with fail
    refine ye (O.out _) ?_;rintro e M ⟨rfl,D⟩;have F:=D.symm;clear D;subst F
    go_wp2_with fail
    go_ret;exact⟨rfl,zaa _ _⟩
   ·have y1:((q:Int) ==(i:Int))=false:=(by simp;omega);have y2:decide ((q:Int)=(i:Int))=false:=yF (by omega);have y3:decide (q=i)=false:=yF e1;by_cases e2:ym=(i:Int)
    ·rw[ya (fun h=>by rcases h with h|h;omega;exact absurd e2 h)];subst e2;by_cases hT:0<=(pt L i).t/\(pt L i).t<=1000
     ·rw[yG hT] at U;rw[ya (yJ hT)];clear hT;generalize zsy (pt L i).cm.length (pt L i).s (zbn (pt L i).cm)=E at *;generalize (pt L i).o=xo at *;generalize (pt L i).t=xt at *;generalize (pt L i).cm.length=cl at *;generalize (pt L i).s=xs at *;generalize L.length=n at *
      go_enter Tryz.func69,Tryz.ntmps69
      go_wp2_with fail
      refine ye (T.out _) ?_;rintro e M ⟨rfl,D⟩;have F:=D.symm;clear D;subst F
      go_wp2_with fail
      refine ye (O.out _) ?_;rintro e M ⟨rfl,D⟩;have F:=D.symm;clear D;subst F
      go_wp2_with fail
      refine ye (U.out _) ?_;rintro e M ⟨rfl,D⟩;have F:=D.symm;clear D;subst F
      go_wp2_with fail
      refine ye (DC.out _ (zaa _ _)) ?_;rintro e M ⟨rfl,a6⟩;have a7:Hid (Below w.heap.size w M):=(zaa _ _).trans (a6.mono (by simp));clear a6
      go_wp2_with fail
      go_ret;exact⟨rfl,a7.out⟩
     ·rw[yF hT] at U;rw[yb hT];clear hT DC;generalize (pt L i).o=xo at *;generalize (pt L i).t=xt at *;generalize (pt L i).cm.length=cl at *;generalize (pt L i).s=xs at *;generalize L.length=n at *
      go_enter Tryz.func69,Tryz.ntmps69
      go_wp2_with fail
      refine ye (T.out _) ?_;rintro e M ⟨rfl,D⟩;have F:=D.symm;clear D;subst F
      go_wp2_with fail
      refine ye (O.out _) ?_;rintro e M ⟨rfl,D⟩;have F:=D.symm;clear D;subst F
      go_wp2_with fail
      refine ye (U.out _) ?_;rintro e M ⟨rfl,D⟩;have F:=D.symm;clear D;subst F
      go_wp2_with fail
      go_ret;exact⟨rfl,zaa _ _⟩
    ·rw[yb (Or.inr e2)];have y4:(ym ==(i:Int))=false:=(by simp[e2]);have y5:decide (ym=(i:Int))=false:=yF e2;have y6:(ym !=(i:Int))=true:=(by simp[e2]);clear DC U;generalize (pt L i).o=xo at *;generalize (pt L i).t=xt at *;generalize (pt L i).cm.length=cl at *;generalize (pt L i).s=xs at *;generalize L.length=n at *
     go_enter Tryz.func69,Tryz.ntmps69
     go_wp2_with fail
     refine ye (T.out _) ?_;rintro e M ⟨rfl,D⟩;have F:=D.symm;clear D;subst F
     go_wp2_with fail
     refine ye (O.out _) ?_;rintro e M ⟨rfl,D⟩;have F:=D.symm;clear D;subst F
     go_wp2_with fail
     go_ret;exact⟨rfl,zaa _ _⟩
  ·rw[yF J] at O
   have Z:Hid (zdx L Fr i=4):=by
    show zdx L Fr i=_;unfold zdx;rw[yb (Or.inr J)]
   rw[Z.out];clear Z J I DC U HL;generalize (pt L i).o=xo at *;generalize (pt L i).t=xt at *;generalize (pt L i).m=xm at *;generalize (pt L i).cm.length=cl at *;generalize (pt L i).s=xs at *;generalize L.length=n at *
   go_enter Tryz.func69,Tryz.ntmps69
   go_wp2_with fail
   refine ye (T.out _) ?_;rintro e M ⟨rfl,D⟩;have F:=D.symm;clear D;subst F
   go_wp2_with fail
   refine ye (O.out _) ?_;rintro e M ⟨rfl,D⟩;have F:=D.symm;clear D;subst F
   go_wp2_with fail
   go_ret;exact⟨rfl,zaa _ _⟩
 ·rw[yF I] at T
  have Z:Hid (zdx L Fr i=4):=by
   show zdx L Fr i=_;unfold zdx;rw[yb (Or.inl I)]
  rw[Z.out];clear Z I DC U O HL;generalize (pt L i).o=xo at *;generalize (pt L i).t=xt at *;generalize (pt L i).m=xm at *;generalize (pt L i).cm.length=cl at *;generalize (pt L i).s=xs at *;generalize L.length=n at *
  go_enter Tryz.func69,Tryz.ntmps69
  go_wp2_with fail
  refine ye (T.out _) ?_;rintro e M ⟨rfl,D⟩;have F:=D.symm;clear D;subst F
  go_wp2_with fail
  go_ret;exact⟨rfl,zaa _ _⟩
theorem zhL:zrZ:=fun a c L Fr w hN hB a6 hL=>by
 by_cases hm:12<L.length
 ·have e:zba L Fr=1:=by unfold zba;rw[yb hm]
  rw[e];have a5:decide ((12:Int)<(L.length:Int))=true:=yG (by omega);clear hL e hB a6;generalize L.length=n at *
  go_enter Tryz.func37,Tryz.ntmps37
  go_wp2_with fail
  go_ret;exact⟨rfl,yk _ _⟩
 ·have e:zba L Fr=zoS L Fr 0:=by unfold zba;rw[ya hm]
  rw[e];have a5:decide ((12:Int)<(L.length:Int))=false:=yF (by omega);have D:Hid (∀ i,i<L.length->∀ W,Below w.heap.size w W->_):=fun i hi W hW=>zls a c L i Fr W (by omega) hi hB (hL.below hW);have ST:Hid (∀ i,i<L.length->zoS L Fr i=if zdx L Fr i=0 then zoS L Fr (i+1) else zdx L Fr i):=fun i hi=>zui hi;have EN:Hid (zoS L Fr L.length=0):=zwN (yj _);clear hL e hB a6;obtain⟨E,hE⟩:∃ E,zoS L Fr 0=E:=⟨_,rfl⟩;have HE:Hid (zoS L Fr 0=E):=hE;rw[hE];clear hE;obtain⟨n,hn⟩:∃ n,L.length=n:=⟨_,rfl⟩;rw[hn] at hN hm a5 ST EN D |-;clear hn
  go_enter Tryz.func37,Tryz.ntmps37
  go_wp2_with fail
  go_loopg [12] n (fun g s12 wr=>∃ i:Nat,i<=n/\n-i<=g/\s12=.int .i64 i/\Hid (Below w.heap.size w wr)/\Hid (zoS L Fr i=E))
  case atStart=>exact⟨0,by omega,by omega,rfl,yk _ _,HE⟩
  case round =>
   obtain⟨i,hi,hg,rfl,F,I⟩:=hrel;clear HE;by_cases Z:i<n
   ·have a9:(i:Int)<(n:Int):=(by omega);have Di:Hid _:=D.out i Z wr F.out;have a7:=(ST.out i Z).symm.trans I.out;have J:Hid _:=a7;clear a7 I;generalize zdx L Fr i=P at *
    go_wp2_with fail
    refine ye Di.out ?_;rintro e w1 ⟨rfl,U⟩;have O:Hid (Below w.heap.size w w1):=F.out.trans (U.mono F.out.size);clear U Di;by_cases T:P=0
    ·have M:Hid (zoS L Fr (i+1)=E):=(by have:=J.out;rw[yb T] at this;exact this);subst T;clear J
     go_wp2_with fail
     go_roundg (n-(i+1))
     case measure=>omega
     case rel=>exact⟨i+1,by omega,by omega,by go_num,O,M⟩
    ·have M:Hid (P=E):=(by have:=J.out;rw[ya T] at this;exact this);have y1:decide (P=0)=false:=yF T;have y2:(P == 0)=false:=(by simp[T]);clear J
     go_wp2_with fail
     go_ret;exact⟨by rw[M.out];rfl,O.out⟩
   ·have e:i=n:=(by omega);have a8:Hid (0=E):=(by have:=I.out;rw[e,EN.out] at this;exact this);have b0:decide ((i:Int)<(n:Int))=false:=yF (by omega);clear I e
    go_wp2_with fail
    go_ret;exact⟨by rw[a8.out];rfl,F.out⟩
theorem zce(a:Option Addr)(c:Nat)(L:List Pt)(Fr k o t:Int)(w:World)(hN:L.length<=9223372036854775807)(hB:znF L)(a5:SlA a L.length c)(hL:zcq w a L) :
  yM 159 #[.slice a L.length c,.int .i64 Fr,.int .i64 k,.int .i64 o,.int .i64 t] w fun e w' => e=.returned (.int .i64 (zaU L Fr k o t))/\Below w.heap.size w w' := by
 have M:Hid _:=zhL a c L Fr w hN hB a5 hL;have HL:Hid (zcq w a L):=hL;clear hL hB a5;unfold zaU;by_cases h1:zba L Fr=0
 ·rw[ya (yJ h1)];rw[h1] at M;have a7:L.length<=12:=(zcI.1 h1).few;have T:Hid (∀ W,_):=fun W=>zkN a L.length c k W (by omega);by_cases h2:0<=k/\k<(L.length:Int)
  ·rw[ya (yJ h2)];rw[yG (show 0<=k/\k<=(L.length:Int)-1 by omega)] at T;obtain⟨q,rfl⟩:=Int.eq_ofNat_of_zero_le h2.1;have hq:q<L.length:=(by omega);have a8:(q:Int)<(L.length:Int):=(by omega);rw[yi];obtain⟨b,oo,ea,c0,c1,c2,ca,cc,c3,a6,c4⟩:=HL.out q hq;subst ea;clear h1 h2 a6 c2 c3 HL;generalize pt L q=x at *;obtain⟨xo,xt,xm,xc,xs⟩:=x;dsimp only at c0 c1 c4 |-;by_cases U:xo=o
   ·subst U;by_cases Z:xt=t
    ·subst Z;rw[ya (by simp)];cases xs
     ·rw[ya (by decide)];generalize L.length=n at *
      go_enter Tryz.func159,Tryz.ntmps159
      go_wp2_with fail
      refine ye M.out ?_;rintro e O ⟨rfl,D⟩;have I:Hid (Below w.heap.size w O):=D;replace c0:=zab c0 D;replace c1:=zab c1 D;replace c4:=zab c4 D;clear D M
      go_wp2_with fail
      refine ye (T.out _) ?_;rintro e w2 ⟨rfl,F⟩;have J:=F.symm;clear F;subst J
      go_wp2_with fail
      go_ret;exact⟨rfl,I.out⟩
     ·rw[yb rfl];generalize L.length=n at *
      go_enter Tryz.func159,Tryz.ntmps159
      go_wp2_with fail
      refine ye M.out ?_;rintro e O ⟨rfl,D⟩;have I:Hid (Below w.heap.size w O):=D;replace c0:=zab c0 D;replace c1:=zab c1 D;replace c4:=zab c4 D;clear D M
      go_wp2_with fail
      refine ye (T.out _) ?_;rintro e w2 ⟨rfl,F⟩;have J:=F.symm;clear F;subst J
      go_wp2_with fail
      go_ret;exact⟨rfl,I.out⟩
    ·rw[yb (Or.inr Z)];have y1:decide (xt=t)=false:=yF Z;have y2:(xt == t)=false:=(by simp[Z]);have y3:(xt != t)=true:=(by simp[Z]);generalize L.length=n at *
     go_enter Tryz.func159,Tryz.ntmps159
     go_wp2_with fail
     refine ye M.out ?_;rintro e O ⟨rfl,D⟩;have I:Hid (Below w.heap.size w O):=D;replace c0:=zab c0 D;replace c1:=zab c1 D;replace c4:=zab c4 D;clear D M
     go_wp2_with fail
     refine ye (T.out _) ?_;rintro e w2 ⟨rfl,F⟩;have J:=F.symm;clear F;subst J
     go_wp2_with fail
     go_ret;exact⟨rfl,I.out⟩
   ·rw[yb (Or.inl U)];have y1:decide (xo=o)=false:=yF U;have y2:(xo == o)=false:=(by simp[U]);have y3:(xo != o)=true:=(by simp[U]);generalize L.length=n at *
    go_enter Tryz.func159,Tryz.ntmps159
    go_wp2_with fail
    refine ye M.out ?_;rintro e O ⟨rfl,D⟩;have I:Hid (Below w.heap.size w O):=D;replace c0:=zab c0 D;replace c1:=zab c1 D;replace c4:=zab c4 D;clear D M
    go_wp2_with fail
    refine ye (T.out _) ?_;rintro e w2 ⟨rfl,F⟩;have J:=F.symm;clear F;subst J
    go_wp2_with fail
    go_ret;exact⟨rfl,I.out⟩
  ·rw[yb h2];rw[yF (show ¬ (0<=k/\k<=(L.length:Int)-1) by omega)] at T;clear h1 h2 HL;generalize L.length=n at *
   go_enter Tryz.func159,Tryz.ntmps159
   go_wp2_with fail
   refine ye M.out ?_;rintro e O ⟨rfl,D⟩;have I:Hid (Below w.heap.size w O):=D;clear D M
   go_wp2_with fail
   refine ye (T.out _) ?_;rintro e w2 ⟨rfl,F⟩;have J:=F.symm;clear F;subst J
   go_wp2_with fail
   go_ret;exact⟨rfl,I.out⟩
 ·rw[yb h1];have y1:decide (zba L Fr=0)=false:=yF h1;have y2:(zba L Fr == 0)=false:=by simp[h1]
  clear HL;generalize zba L Fr=E at *;generalize L.length=n at *
  go_enter Tryz.func159,Tryz.ntmps159
  go_wp2_with fail
  refine ye M.out ?_;rintro e O ⟨rfl,D⟩;have I:Hid (Below w.heap.size w O):=D;clear D M
  go_wp2_with fail
  go_ret;exact⟨rfl,I.out⟩
theorem zdt{L:List Pt}{Fr:Int}(R:zdq L Fr):zxu L:=fun i hi=>by
 obtain⟨_,_,_,_,h5,E⟩:=zbj.1 (R.ok i hi);have hg:=zci.1 E;exact⟨by omega,fun j D=>⟨by have:=(hg j D).few;omega,fun m F=>by have:=(hg j D).kids8 m F;omega⟩⟩
theorem zus{B0 B:Nat}(h0:B0<=B){w:World}{v:Value}{M:List Pt}{K:Nat->Value}(row:w.ownsRow B 121 5 v M.length (zcb M K))(hg:∀ i,i<M.length->St (fun x=>x<B0) (fun w=>zrV w (K i) (pt M i).cm) w) :
  ∃ a c,v=.slice a M.length c/\SlA a M.length c/\St (fun x=>x<B0) (fun w=>zcq w a M) w:=by
 have D:∀ w', zaq (fun x=>x<B0) w w' -> ∃ a c,v=.slice a M.length c/\zcq w' a M:=fun w' F =>
  zut (zaK row (fun j J=>F.block j (row.lt j J).2 (by show ¬ j<B0;have:=(row.lt j J).1;omega))) (fun i hi=>hg i hi w' F)
 obtain⟨a,c,e,_⟩:=D w (zaq.refl _ w);refine⟨a,c,e,?_,fun w' F=>?_⟩
 ·rcases row.2 with ⟨E,hn⟩ |⟨g,cap,O,E,_,_,h1,T,_⟩
  ·rw[e] at E;simp only[Value.slice.injEq] at E;obtain⟨rfl,_,rfl⟩:=E;exact⟨fun _=>rfl,by omega,by omega⟩
  ·rw[e] at E;cases E;exact⟨(fun h=>by cases h),h1,by unfold maxLen at T;omega⟩
 ·obtain⟨Z,c', I,U⟩:=D w' F;rw[e] at I;cases I;exact U
theorem CpI.grs{B B0:Nat}{L:List Pt}{K:Nat->Value}{lo hi:Nat->Nat}{w E:World}{Y:Nat->Prop}(h:CpI B L K lo hi L.length w)(h0:B0<=B)(F:zxu L)(o:zaq Y w E){i:Nat}(D:i<L.length)(I:∀ b,Y b->b<lo i\/hi i<=b):St (fun x=>x<B0) (fun w=>zrV w (K i) (pt L i).cm) E:=fun w' M =>
 (((h.gs i D).off o I).off M (fun b J=>Or.inl (by have:b<B0:=J;have:=(h.at' i D).1;omega))).grs (F i D).1
theorem CpI.put{B B0:Nat}{L:List Pt}{K I:Nat->Value}{lo hi:Nat->Nat}{w F:World}{Y:Nat->Prop}{q:Nat}{x:Pt}(h:CpI B L K lo hi L.length w)(h0:B0<=B)(U:zxu L)(hq:q<L.length)
  (row:F.ownsRow B 121 5 (.slice (some ⟨B,0,none⟩) L.length L.length) L.length (zcb (L.set q x) I)) (hK:∀ i,i≠q->I i=K i) (o:zaq Y w F) (Z:∀ b,Y b->b<=B\/(lo q<=b/\b<hi q)) (hx:St (fun x=>x<B0) (fun w=>zrV w (I q) x.cm) F) :
  SlA (some ⟨B,0,none⟩) L.length L.length/\St (fun x=>x<B0) (fun w=>zcq w (some ⟨B,0,none⟩) (L.set q x)) F:=by
 have J:(L.set q x).length=L.length:=List.length_set;have E:F.ownsRow B 121 5 (.slice (some ⟨B,0,none⟩) L.length L.length) (L.set q x).length (zcb (L.set q x) I):=by rw[J];exact row
 obtain⟨a,c,e,hs,hp⟩:=zus h0 E (fun i D=>by
  rw[J] at D;by_cases e:i=q
  ·subst e;rw[zlZ D];exact hx
  ·rw[zkV D,ya (fun M=>e M.symm),hK i e];refine h.grs h0 U o D (fun b hb=>?_);have h1:=(h.at' i D).1;rcases Z b hb with O|O
   ·exact Or.inl (by omega)
   ·rcases h.ap i q D hq e with T|T
    ·exact Or.inr (by omega)
    ·exact Or.inl (by omega))
 rw[J] at e hs;cases e;exact⟨hs,hp⟩
theorem CpI.cell{B:Nat}{L:List Pt}{K:Nat->Value}{lo hi:Nat->Nat}{w:World}(h:CpI B L K lo hi L.length w){k f:Nat}(E:k<L.length)(D:f<5):w.cell? ⟨B,k*5+f,none⟩=(zcQ (pt L k) (K k))[f]?:=zuG h.row rfl E D
theorem zhd{X:Nat->Prop}{B0:Nat}{w:World}{a:Option Addr}{M:List Pt}(D:∀ b,X b->b<B0)(h:St (fun x=>x<B0) (fun w=>zcq w a M) w):zbK X w a M:=h.less D
theorem zbv(X:Nat->Prop)(w:World):zbK X w none []:=fun w' _=>zwT w'
theorem zdc:SlA none ([]:List Pt).length 0:=⟨fun _=>rfl,yj _,by omega⟩
theorem zuN:zvs:=fun X a c L Fr k o t w hX hN hB Z hL=>by
 have DH:Hid _:=zce a c L Fr k o t w hN hB Z hL.at;unfold zhU;by_cases J:zaU L Fr k o t=0
 ·rw[yb J,J];rw[J] at DH;obtain⟨R,q,rfl,U,_⟩:=zco J;have O:=R.few;have hF:=zdt R;have DP:Hid (∀ W,Below w.heap.size w W->_):=fun W hW=>zdX a c L W O hF (hL.at.below hW)
  have T:Hid (∀ (B:Nat) (F:World) (K:Nat->Value) (lo hi:Nat->Nat),w.heap.size<=B->CpI B L K lo hi L.length F->SlA (some ⟨B,0,none⟩) L.length L.length/\zbK X ((F.setCell ⟨B,q*5+4,none⟩ (.bool true)).setCell ⟨B,q*5+3,none⟩ (.slice none 0 0)) (some ⟨B,0,none⟩) (zhX L q)):=fun B F K lo hi a8 h=>by
   have a1:=zhV h.row (k:=q) (f:=4) (u:=.bool true) (v:=K q) (x:={ pt L q with s:=true }) U (by omega) rfl;have a2:=zhV a1 (k:=q) (f:=3) (u:=.slice none 0 0) (v:=.slice none 0 0) (x:={ pt L q with s:=true,cm:=[] }) (by simpa using U) (by omega) (by rw[zlZ U];simp only[if_true];rfl);rw[List.set_set] at a2;have h1:=h.put (Y:=fun b=>b=B) a8 hF U a2 (fun i hi=>by simp only[ya hi]) ((zaq.set (X:=fun b=>b=B) _ _ rfl).trans (zaq.set (X:=fun b=>b=B) _ _ rfl)) (fun b hb=>Or.inl (by have:b=B:=hb;omega)) (fun w' _=>by simp only[if_true];exact zrV.nil w');unfold zhX;rw[yi];exact⟨h1.1,zhd hX h1.2⟩
  have OC:Hid (∀ (B:Nat) (F:World) (K:Nat->Value) (lo hi:Nat->Nat),CpI B L K lo hi L.length F->F.cell? ⟨B,q*5+3,none⟩=some (K q)/\F.cell? ⟨B,q*5+4,none⟩=some (.bool (pt L q).s)/\∀ o,F.frozen? ⟨B,o,none⟩=false):=fun B F K lo hi h=>⟨h.cell U (show 3<5 by omega),h.cell U (show 4<5 by omega),fun o=>h.row.frozenAt o⟩;have ML:Hid ((zhX L q).length=L.length):=by show _=_;unfold zhX;simp
  have a9:(q:Int)<(L.length:Int):=by omega
  clear hL hB Z hF R J hN;generalize (pt L q).s=xs at *;generalize zhX L q=M at *;obtain⟨n,hn⟩:∃ z,L.length=z:=⟨_,rfl⟩;rw[hn] at U a9 O DH DP T OC ML;rw[hn];clear hn
  go_enter Tryz.func147,Tryz.ntmps147
  go_wp2_with fail
  refine ye DH.out ?_;rintro e I ⟨rfl,a6⟩;have D:Hid (Below w.heap.size w I):=a6;clear a6 DH
  go_wp2_with fail
  refine ye (DP.out _ D.out) ?_;rintro e w2 ⟨K,lo,hi,rfl,a7,hc⟩;obtain⟨x3,x4,fz⟩:=OC.out _ _ _ _ _ hc;have s2:I.heap.size<w2.heap.size:=yd _ _ x3;have FF:Hid _:=T.out _ _ _ _ _ D.out.size hc;have a5:Hid (Below w.heap.size w ((w2.setCell ⟨I.heap.size,q*5+4,none⟩ (.bool true)).setCell ⟨I.heap.size,q*5+3,none⟩ (.slice none 0 0))):=((D.out.trans (a7.mono D.out.size)).setCell (show w.heap.size<=I.heap.size from D.out.size) _).setCell (show w.heap.size<=I.heap.size from D.out.size) _;clear a7 hc DP T OC;generalize K q=kq at *
  go_wp2_with fail
  exact yw (v:=.tuple #[.slice (some ⟨I.heap.size,0,none⟩) n n,.int .i64 0]) (by simp[results,Tryz.results147,go_sem]) rfl (by first|exact⟨_,n,by rw[ML.out],a5.out,(by rw[ML.out];exact FF.out.1),FF.out.2⟩|exact⟨_,⟨n,by rw[ML.out]⟩,a5.out,(by rw[ML.out];exact FF.out.1),FF.out.2⟩)
 ·rw[ya J];have y1:decide (zaU L Fr k o t=0)=false:=yF J;have y2:(zaU L Fr k o t == 0)=false:=by simp[J]
  clear hL hB Z;generalize zaU L Fr k o t=E at *;generalize L.length=n at *
  go_enter Tryz.func147,Tryz.ntmps147
  go_wp2_with fail
  refine ye DH.out ?_;rintro e I ⟨rfl,hb⟩;have D:Hid (Below w.heap.size w I):=hb;clear hb DH
  go_wp2_with fail
  exact yw (v:=.tuple #[.slice none 0 0,.int .i64 E]) (by simp[results,Tryz.results147,go_sem]) rfl ⟨none,0,rfl,D.out,zdc,zbv X _⟩
theorem zuk:zvp:=fun X a c L Fr k o t D th w hX hN hB a5 hL=>by
 have DH:Hid _:=zce a c L Fr k o t w hN hB a5 hL.at;have DO:Hid (∀ W,_):=fun W=>zgb Fr D th W;unfold zhR;rw[zul];by_cases T:zaU L Fr k o t=0
 ·have eT:zuW (zaU L Fr k o t) (zcx Fr D th)=zcx Fr D th:=by unfold zuW;rw[T];simp
  rw[eT];rw[T] at DH;obtain⟨R,q,rfl,Z,_⟩:=zco T;have a6:=R.few;have hF:=zdt R;by_cases hE:zcx Fr D th=0
  ·rw[yb hE,hE];rw[hE] at DO;have DP:Hid (∀ W,Below w.heap.size w W->_):=fun W hW=>zdX a c L W a6 hF (hL.at.below hW)
   have a7:Hid (∀ (B:Nat) (I:World) (K:Nat->Value) (lo hi:Nat->Nat),w.heap.size<=B->CpI B L K lo hi L.length I->SlA (some ⟨B,0,none⟩) L.length L.length/\zbK X ((I.setCell ⟨B,q*5,none⟩ (.int .i64 D)).setCell ⟨B,q*5+1,none⟩ (.int .i64 th)) (some ⟨B,0,none⟩) (zhJ L q D th)):=fun B I K lo hi b0 h=>by
    have a1:=zhV h.row (k:=q) (f:=0) (u:=.int .i64 D) (v:=K q) (x:={ pt L q with o:=D }) Z (by omega) rfl;have a2:=zhV a1 (k:=q) (f:=1) (u:=.int .i64 th) (v:=K q) (x:={ pt L q with o:=D,t:=th }) (by simpa using Z) (by omega) (by rw[zlZ Z];simp only[if_true];rfl);rw[List.set_set] at a2;have oo:zaq (fun b=>b=B) I ((I.setCell ⟨B,q*5,none⟩ (.int .i64 D)).setCell ⟨B,q*5+1,none⟩ (.int .i64 th)):=(zaq.set (X:=fun b=>b=B) _ _ rfl).trans (zaq.set (X:=fun b=>b=B) _ _ rfl);have h1:=h.put (Y:=fun b=>b=B) b0 hF Z a2 (fun i hi=>by simp only[ya hi]) oo (fun b U=>Or.inl (by have:b=B:=U;omega)) (by simp only[if_true];exact h.grs b0 hF oo Z (fun b U=>Or.inl (by have:b=B:=U;have:=(h.at' q Z).1;omega)));unfold zhJ;rw[yi];exact⟨h1.1,zhd hX h1.2⟩
   have OC:Hid (∀ (B:Nat) (I:World) (K:Nat->Value) (lo hi:Nat->Nat),CpI B L K lo hi L.length I->I.cell? ⟨B,q*5,none⟩=some (.int .i64 (pt L q).o)/\I.cell? ⟨B,q*5+1,none⟩=some (.int .i64 (pt L q).t)/\∀ o,I.frozen? ⟨B,o,none⟩=false):=fun B I K lo hi h=>⟨h.cell Z (show 0<5 by omega),h.cell Z (show 1<5 by omega),fun o=>h.row.frozenAt o⟩;have ML:Hid ((zhJ L q D th).length=L.length):=(by show _=_;unfold zhJ;simp);have b3:(q:Int)<(L.length:Int):=(by omega);clear hL hB a5 hF R T hN eT hE;generalize (pt L q).o=xo at *;generalize (pt L q).t=xt at *;generalize zhJ L q D th=M at *;obtain⟨n,hn⟩:∃ z,L.length=z:=⟨_,rfl⟩;rw[hn] at Z b3 a6 DH DP a7 OC ML;rw[hn];clear hn
   go_enter Tryz.func144,Tryz.ntmps144
   go_wp2_with fail
   refine ye DH.out ?_;rintro e O ⟨rfl,b1⟩;have F:Hid (Below w.heap.size w O):=b1;clear b1 DH
   go_wp2_with fail
   refine ye (DO.out _) ?_;rintro e w2 ⟨rfl,J⟩;have a8:=J.symm;clear J;subst a8
   go_wp2_with fail
   refine ye (DP.out _ F.out) ?_;rintro e w2 ⟨K,lo,hi,rfl,b2,hc⟩;obtain⟨x3,x4,fz⟩:=OC.out _ _ _ _ _ hc;have s2:O.heap.size<w2.heap.size:=yd _ _ x3;have FF:Hid _:=a7.out _ _ _ _ _ F.out.size hc;have a9:Hid (Below w.heap.size w ((w2.setCell ⟨O.heap.size,q*5,none⟩ (.int .i64 D)).setCell ⟨O.heap.size,q*5+1,none⟩ (.int .i64 th))):=((F.out.trans (b2.mono F.out.size)).setCell (show w.heap.size<=O.heap.size from F.out.size) _).setCell (show w.heap.size<=O.heap.size from F.out.size) _;clear b2 hc DP a7 OC
   go_wp2_with fail
   exact yw (v:=.tuple #[.slice (some ⟨O.heap.size,0,none⟩) n n,.int .i64 0]) (by simp[results,Tryz.results144,go_sem]) rfl (by first|exact⟨_,n,by rw[ML.out],a9.out,(by rw[ML.out];exact FF.out.1),FF.out.2⟩|exact⟨_,⟨n,by rw[ML.out]⟩,a9.out,(by rw[ML.out];exact FF.out.1),FF.out.2⟩)
  ·rw[ya hE];have y1:decide (zcx Fr D th=0)=false:=yF hE;have y2:(zcx Fr D th == 0)=false:=(by simp[hE]);clear hL hB a5 hF R T eT;generalize zcx Fr D th=E at *;generalize L.length=n at *
   go_enter Tryz.func144,Tryz.ntmps144
   go_wp2_with fail
   refine ye DH.out ?_;rintro e O ⟨rfl,U⟩;have F:Hid (Below w.heap.size w O):=U;clear U DH
   go_wp2_with fail
   refine ye (DO.out _) ?_;rintro e w2 ⟨rfl,J⟩;have a8:=J.symm;clear J;subst a8
   go_wp2_with fail
   exact yw (v:=.tuple #[.slice none 0 0,.int .i64 E]) (by simp[results,Tryz.results144,go_sem]) rfl ⟨none,0,rfl,F.out,zdc,zbv X _⟩
 ·have eT:zuW (zaU L Fr k o t) (zcx Fr D th)=zaU L Fr k o t:=by unfold zuW;rw[yb T]
  rw[eT,ya T];have y1:decide (zaU L Fr k o t=0)=false:=yF T;have y2:(zaU L Fr k o t == 0)=false:=by simp[T]
  clear hL hB a5 DO eT;generalize zaU L Fr k o t=E at *;generalize L.length=n at *
  go_enter Tryz.func144,Tryz.ntmps144
  go_wp2_with fail
  refine ye DH.out ?_;rintro e O ⟨rfl,U⟩;have F:Hid (Below w.heap.size w O):=U;clear U DH
  go_wp2_with fail
  exact yw (v:=.tuple #[.slice none 0 0,.int .i64 E]) (by simp[results,Tryz.results144,go_sem]) rfl ⟨none,0,rfl,F.out,zdc,zbv X _⟩
end Go.Proofs.YtcbcpomacdngmaaGreat
