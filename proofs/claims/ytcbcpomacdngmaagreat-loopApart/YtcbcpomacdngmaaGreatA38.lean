/-
  x
-/
import Derived.Test.YtcbcpomacdngmaaGreatA37
namespace Go.Proofs.YtcbcpomacdngmaaGreat
set_option maxRecDepth 100000
set_option maxHeartbeats 4000000
set_option linter.unusedVariables false
open Go.RowKit Go.ChangeShapes Go.WideShapes Tryz
variable{w:Wd}{g n k:Nat}{F:Nat->Value}{a:OA}{X:List Ac}{q:List Ml}
def acF(X:List Ac)(j:Nat):Value:=.int .i64 (if j % 5=0 then (ac X (j / 5)).k else if j % 5=1 then (ac X (j / 5)).a else if j % 5=2 then (ac X (j / 5)).b else if j % 5=3 then (ac X (j / 5)).c else (ac X (j / 5)).n)
def zT(X:List Ac):List Value:=(List.range (X.length*5)).map (acF X)
theorem Vi(X:List Ac):(zT X).length=X.length*5:=by simp[zT]
theorem Vj(X:List Ac):∀ v ∈ zT X,v.oneCell' = true:=fun v hv=>by
 obtain⟨j,_,rfl⟩:=List.mem_map.1 hv;rfl
theorem ZA{j:Nat}{v:Value}(h:((List.range n).map F)[j]?=some v):j<n/\v=F j:=by
 obtain⟨hl,hv⟩:=List.getElem?_eq_some_iff.1 h;have D:j<n:=by simpa using hl
 refine⟨D,?_⟩;rw[<- hv];simp
theorem Vk(h:dY w a X):∀ D,a=some D->∀ j v,(zT X)[j]?=some v->w.cell? (D.add j)=some v:=fun D e j v F=>by
 obtain⟨hl,rfl⟩:=ZA F;obtain⟨b,o,E,c0,c1,c2,c3,c4⟩:=h (j / 5) oaa;rw[e] at E;cases E;rw[Addr.add_lit];unfold acF;rcases(by omega:j % 5=0\/j % 5=1\/j % 5=2\/j % 5=3\/j % 5=4) with h|h|h|h|h
 ·rw[ye h,show o+j=o+j / 5*5 by omega,c0]
 ·rw[yd oaa,ye h,show o+j=o+j / 5*5+1 by omega,c1]
 ·rw[yd oaa,yd oaa,ye h,show o+j=o+j / 5*5+2 by omega,c2]
 ·rw[yd oaa,yd oaa,yd oaa,ye h,show o+j=o+j / 5*5+3 by omega,c3]
 ·rw[yd oaa,yd oaa,yd oaa,yd oaa,show o+j=o+j / 5*5+4 by omega,c4]
theorem ZB{t:Nat}(e:w.heap[g]?=some (.cells ((List.range n).map F).toArray t (0,0))):w.rowIs g t n F:=⟨_,e,oac,fun i hi=>by simp[hi]⟩
theorem Vl(D:w.rowIs g 36 (X.length*5) (acF X)):dY w (some ⟨g,0,none⟩) X:=fun i hi=>by
 refine⟨g,0,rfl,?_,?_,?_,?_,?_⟩
 ·rw[yD,D.cell oaa];unfold acF;rw[ye oaa,show i*5 / 5=i by omega]
 ·rw[yD,D.cell oaa];unfold acF;rw[yd oaa,ye oaa,show (i*5+1) / 5=i by omega]
 ·rw[yD,D.cell oaa];unfold acF;rw[yd oaa,yd oaa,ye oaa,show (i*5+2) / 5=i by omega]
 ·rw[yD,D.cell oaa];unfold acF;rw[yd oaa,yd oaa,yd oaa,ye oaa,show (i*5+3) / 5=i by omega]
 ·rw[yD,D.cell oaa];unfold acF;rw[yd oaa,yd oaa,yd oaa,yd oaa,show (i*5+4) / 5=i by omega]
theorem Vm{L:List Fr}(h:aS w a L):∀ D,a=some D->∀ j v,(dW L)[j]?=some v->w.cell? (D.add j)=some v:=fun D e j v F=>by
 obtain⟨hl,_⟩:=ZA F;obtain⟨b,o,E,_⟩:=h (j / 5) oaa;rw[e] at E;cases E;rw[e] at h;exact h.src j v F
theorem ZC{w:Wd}{P:Nat->Nat->Nat->Prop}(h:∀ i,i<n->∃ b o,a=some ⟨b,o,none⟩/\P i b o):a=none->n=0:=fun e=>by
 by_cases h0:n=0
 ·exact h0
 ·obtain⟨b,o,D,_⟩:=h 0 oaa;rw[e] at D;cases D
theorem St.top{X:Nat->Prop}{P:World->Prop}(h:St X P w):St (fun b=>X b\/w.heap.size<=b) P w:=fun w' D=>h w' ⟨D.size,fun b hb E=>D.block b hb (fun h=>h.elim E (fun h=>oaa))⟩
def sU(x:EPg):Nat->Value
 | _=>.slice x.pa x.pl x.pc
theorem Vn(n:Nat)(hn:n<=100000)(w:Wd):(Instr.makeSlice 24 (.int .i64 (n:Int)) (.int .i64 (n:Int))).run prog w=.ok (.slice (some ⟨w.heap.size,0,none⟩) n n) (w.alloc (.cells (madeCells #[.slice none 0 0] (n*1)) 34)):=by
 have I:(prog.info? 34).map (fun i=>(i.zero,i.size,i.bytes))=some (some (.slice none 0 0),1,24):=oad
 obtain⟨i,hi,D,E,F⟩:=info_parts I;have h:=run_make (P:=prog) w 24 34 i _ underlying24 hi D .i64 .i64 n n oaa oaa (by rw[F];omega) oaa;rw[E] at h;simp only[yk] at h;exact h
theorem aN.putPg(h:w.rowIs g 34 (n*1) F)(x:EPg):∃ D,(w.setCell ⟨g,k,none⟩ (.slice x.pa x.pl x.pc)).rowIs g 34 (n*1) D/\(∀ j,j<1->D (k*1+j)=sU x j)/\∀ i,i<k->∀ j,j<1->D (i*1+j)=F (i*1+j):=by
 refine⟨_,h.set _ _,fun j E=>?_,fun i hi j E=>?_⟩
 ·obtain rfl:j=0:=oaa
  exact ye oaa
 ·exact yd oaa
theorem Vo(K:Nat)(eg:∀ args w,(callFunc K args).run prog w=.ok (.enter K args) w)(a:OA)(c n:Nat)(S:Nat->EPg)(R:Nat->EPg->Nat->Nat->World->Prop)(w:Wd)(hn:n<=100000)
  (hs:∀ i,i<n->∃ b o,a=some ⟨b,o,none⟩/\w.cell? ⟨b,o+i,none⟩=some (.slice (S i).pa (S i).pl (S i).pc))
  (hK:∀ i,i<n->∀ W,Bl w W->yO K #[.slice (S i).pa (S i).pl (S i).pc] W fun e T=>∃ y:EPg,e=.returned (.slice y.pa y.pl y.pc)/\Below W.heap.size W T/\St (fun b=>b<W.heap.size\/T.heap.size<=b) (R i y W.heap.size T.heap.size) T) :
  yO 74 #[.slice a n c,.func (.func K) #[] #[]] w fun e w' => e=.returned (.slice (some ⟨w.heap.size,0,none⟩) n n)/\Below w.heap.size w w' /\ aN sU 34 1 n R w.heap.size n w' := by
 have HS:Hid _:=hs;have HK:Hid _:=hK;clear hs hK;have b2:=Vn n hn
 go_enter func74,ntmps74
 go_wp2
 go_loopg [13] n (fun m s13 wr=>∃ k:Nat,k<=n/\n-k<=m/\s13=.int .i64 k/\Below w.heap.size w wr/\Hid (aN sU 34 1 n R w.heap.size k wr))
 case atStart=>exact⟨0,oaa,oaa,rfl,aB _ _,(by have h:=aN.zero (cv:=sU) w #[.slice none 0 0] 34 1 n R (S 0);rw[Nat.mul_one] at h;exact h)⟩
 case round =>
  obtain⟨k,hk,hg,rfl,hb,O⟩:=hrel;by_cases I:k<n
  ·have a9:(k:Int)<(n:Int):=oaa;obtain⟨b,o,rfl,c0⟩:=HS.out k I;replace c0:=aA c0 hb;have b0:b<wr.heap.size:=yi _ _ c0;obtain⟨E,Z,F,U⟩:=O.facts;have D:Hid (∀ W,Bl wr W->Calls _ _ _ _ _):=fun W hW=>HK.out k I W (hb.trans (hW.mono hb.size));generalize S k=x at *;obtain⟨b3,b5,b4⟩:=x;dsimp only at c0 D
   go_wp2_with (go_at_fn K;refine(D _ ?nd).mono ?_;(case nd=>exact yv _ _);rintro e w3 ⟨⟨a5,a7,a6⟩,rfl,M,h3⟩;have HR:Hid _:=h3;clear h3;have J:Hid (Bl wr w3):=M;have s3:Hid (wr.heap.size<=w3.heap.size):=J.size;clear M;have q0:=(J.cell (by exact E)).trans (U (k) oaa);have a8:=fun o=>(J.frozen (by exact E)).trans (Z o);have b1:w.heap.size<w3.heap.size:=yC E s3.out)
   go_roundg (n-(k+1))
   case measure=>omega
   case rel =>
    refine⟨k+1,oaa,oaa,by go_num,((hb.trans (J.mono hb.size)).setCell oac _),aN.step O.out I J.out (yr _) ?_ HR.out rfl ((aC.refl (fun b=>b=w.heap.size) _).trans (aC.set (X:=fun b=>b=w.heap.size) _ _ rfl)) (fun F U=>aN.putPg U ⟨a5,a7,a6⟩)⟩;exact s3.out
  ·have:k=n:=oaa;subst this
   go_wp2
   go_ret;exact⟨rfl,hb,O.out⟩
def vY(x:EMl):Nat->Value
 | 0=>.int .i64 x.f
 | _=>.slice x.ga x.gl x.gc
theorem Vp(n:Nat)(hn:n<=100000)(w:Wd):(Instr.makeSlice 51 (.int .i64 (n:Int)) (.int .i64 (n:Int))).run prog w=.ok (.slice (some ⟨w.heap.size,0,none⟩) n n) (w.alloc (.cells (madeCells #[.int .i64 0,.slice none 0 0] (n*2)) 53)):=by
 have I:(prog.info? 53).map (fun i=>(i.zero,i.size,i.bytes))=some (some (.agg #[.int .i64 0,.slice none 0 0]),2,32):=oad
 obtain⟨i,hi,D,E,F⟩:=info_parts I;have h:=run_make (P:=prog) w 51 53 i _ underlying51 hi D .i64 .i64 n n oaa oaa (by rw[F];omega) oaa;rw[E] at h;simp only[yk] at h;exact h
theorem aN.putMl(h:w.rowIs g 53 (n*2) F)(x:EMl):∃ D,((w.setCell ⟨g,k*2,none⟩ (.int .i64 x.f)).setCell ⟨g,k*2+1,none⟩ (.slice x.ga x.gl x.gc)).rowIs g 53 (n*2) D/\(∀ j,j<2->D (k*2+j)=vY x j)/\∀ i,i<k->∀ j,j<2->D (i*2+j)=F (i*2+j):=by
 refine⟨_,(h.set _ _).set _ _,fun j E=>?_,fun i hi j E=>?_⟩
 ·rcases(by omega:j=0\/j=1) with rfl|rfl
  ·rw[yd oaa,ye oaa];rfl
  ·rw[ye rfl];rfl
 ·rw[yd oaa,yd oaa]
theorem Vq(K:Nat)(eg:∀ args w,(callFunc K args).run prog w=.ok (.enter K args) w)(a:OA)(c n:Nat)(S:Nat->EMl)(R:Nat->EMl->Nat->Nat->World->Prop)(w:Wd)(hn:n<=100000)
  (hs:∀ i,i<n->∃ b o,a=some ⟨b,o,none⟩/\w.cell? ⟨b,o+i*2,none⟩=some (.int .i64 (S i).f)/\w.cell? ⟨b,o+i*2+1,none⟩=some (.slice (S i).ga (S i).gl (S i).gc))
  (hK:∀ i,i<n->∀ W,Bl w W->yO K #[.agg #[.int .i64 (S i).f,.slice (S i).ga (S i).gl (S i).gc]] W fun e T=>∃ y:EMl,e=.returned (.agg #[.int .i64 y.f,.slice y.ga y.gl y.gc])/\Below W.heap.size W T/\St (fun b=>b<W.heap.size\/T.heap.size<=b) (R i y W.heap.size T.heap.size) T) :
  yO 105 #[.slice a n c,.func (.func K) #[] #[]] w fun e w' => e=.returned (.slice (some ⟨w.heap.size,0,none⟩) n n)/\Below w.heap.size w w' /\ aN vY 53 2 n R w.heap.size n w' := by
 have HS:Hid _:=hs;have HK:Hid _:=hK;clear hs hK;have b2:=Vp n hn
 go_enter func105,ntmps105
 go_wp2
 go_loopg [13] n (fun m s13 wr=>∃ k:Nat,k<=n/\n-k<=m/\s13=.int .i64 k/\Below w.heap.size w wr/\Hid (aN vY 53 2 n R w.heap.size k wr))
 case atStart=>exact⟨0,oaa,oaa,rfl,aB _ _,aN.zero w _ 53 2 n R (S 0)⟩
 case round =>
  obtain⟨k,hk,hg,rfl,hb,O⟩:=hrel;by_cases J:k<n
  ·have a9:(k:Int)<(n:Int):=oaa;obtain⟨b,o,rfl,c0,c1⟩:=HS.out k J;replace c0:=aA c0 hb;replace c1:=aA c1 hb;have b0:b<wr.heap.size:=yi _ _ c0;obtain⟨E,Z,F,U⟩:=O.facts;have D:Hid (∀ W,Bl wr W->Calls _ _ _ _ _):=fun W hW=>HK.out k J W (hb.trans (hW.mono hb.size));generalize S k=x at *;obtain⟨xf,b3,b5,b4⟩:=x;dsimp only at c0 c1 D
   go_wp2_with (go_at_fn K;refine(D _ ?nd).mono ?_;(case nd=>exact aB _ _);rintro e w3 ⟨⟨yf,a5,a7,a6⟩,rfl,I,h3⟩;have HR:Hid _:=h3;clear h3;have M:Hid (Bl wr w3):=(aB _ _).trans (I.mono oac);have s3:Hid (wr.heap.size<=w3.heap.size):=M.size;have SZ:Hid _:=I.size;clear I;have q0:=(M.cell (by exact E)).trans (U (k*2) oaa);have q1:=(M.cell (by exact E)).trans (U (k*2+1) oaa);have a8:=fun o=>(M.frozen (by exact E)).trans (Z o);have b1:w.heap.size<w3.heap.size:=yC E s3.out)
   go_roundg (n-(k+1))
   case measure=>omega
   case rel =>
    refine⟨k+1,oaa,oaa,by go_num,(((hb.trans (M.mono hb.size)).setCell oac _).setCell oac _),aN.step O.out J M.out oac ?_ HR.out rfl (((aC.refl (fun b=>b=w.heap.size) _).trans (aC.set (X:=fun b=>b=w.heap.size) _ _ rfl)).trans (aC.set (X:=fun b=>b=w.heap.size) _ _ rfl)) (fun F U=>aN.putMl U ⟨yf,a5,a7,a6⟩)⟩;have:=SZ.out;simpa using this
  ·have:k=n:=oaa;subst this
   go_wp2
   go_ret;exact⟨rfl,hb,O.out⟩
def sW(x:EQu):Nat->Value
 | _=>.slice x.qa x.ql x.qc
theorem Vr(n:Nat)(hn:n<=100000)(w:Wd):(Instr.makeSlice 25 (.int .i64 (n:Int)) (.int .i64 (n:Int))).run prog w=.ok (.slice (some ⟨w.heap.size,0,none⟩) n n) (w.alloc (.cells (madeCells #[.slice none 0 0] (n*1)) 51)):=by
 have I:(prog.info? 51).map (fun i=>(i.zero,i.size,i.bytes))=some (some (.slice none 0 0),1,24):=oad
 obtain⟨i,hi,D,E,F⟩:=info_parts I;have h:=run_make (P:=prog) w 25 51 i _ underlying25 hi D .i64 .i64 n n oaa oaa (by rw[F];omega) oaa;rw[E] at h;simp only[yk] at h;exact h
theorem aN.putQu(h:w.rowIs g 51 (n*1) F)(x:EQu):∃ D,(w.setCell ⟨g,k,none⟩ (.slice x.qa x.ql x.qc)).rowIs g 51 (n*1) D/\(∀ j,j<1->D (k*1+j)=sW x j)/\∀ i,i<k->∀ j,j<1->D (i*1+j)=F (i*1+j):=by
 refine⟨_,h.set _ _,fun j E=>?_,fun i hi j E=>?_⟩
 ·obtain rfl:j=0:=oaa
  exact ye oaa
 ·exact yd oaa
theorem Vs(K:Nat)(eg:∀ args w,(callFunc K args).run prog w=.ok (.enter K args) w)(a:OA)(c n:Nat)(S:Nat->EQu)(R:Nat->EQu->Nat->Nat->World->Prop)(w:Wd)(hn:n<=100000)
  (hs:∀ i,i<n->∃ b o,a=some ⟨b,o,none⟩/\w.cell? ⟨b,o+i,none⟩=some (.slice (S i).qa (S i).ql (S i).qc))
  (hK:∀ i,i<n->∀ W,Bl w W->yO K #[.slice (S i).qa (S i).ql (S i).qc] W fun e T=>∃ y:EQu,e=.returned (.slice y.qa y.ql y.qc)/\Below W.heap.size W T/\St (fun b=>b<W.heap.size\/T.heap.size<=b) (R i y W.heap.size T.heap.size) T) :
  yO 76 #[.slice a n c,.func (.func K) #[] #[]] w fun e w' => e=.returned (.slice (some ⟨w.heap.size,0,none⟩) n n)/\Below w.heap.size w w' /\ aN sW 51 1 n R w.heap.size n w' := by
 have HS:Hid _:=hs;have HK:Hid _:=hK;clear hs hK;have b2:=Vr n hn
 go_enter func76,ntmps76
 go_wp2
 go_loopg [13] n (fun m s13 wr=>∃ k:Nat,k<=n/\n-k<=m/\s13=.int .i64 k/\Below w.heap.size w wr/\Hid (aN sW 51 1 n R w.heap.size k wr))
 case atStart=>exact⟨0,oaa,oaa,rfl,aB _ _,(by have h:=aN.zero (cv:=sW) w #[.slice none 0 0] 51 1 n R (S 0);rw[Nat.mul_one] at h;exact h)⟩
 case round =>
  obtain⟨k,hk,hg,rfl,hb,O⟩:=hrel;by_cases I:k<n
  ·have a9:(k:Int)<(n:Int):=oaa;obtain⟨b,o,rfl,c0⟩:=HS.out k I;replace c0:=aA c0 hb;have b0:b<wr.heap.size:=yi _ _ c0;obtain⟨E,Z,F,U⟩:=O.facts;have D:Hid (∀ W,Bl wr W->Calls _ _ _ _ _):=fun W hW=>HK.out k I W (hb.trans (hW.mono hb.size));generalize S k=x at *;obtain⟨b3,b5,b4⟩:=x;dsimp only at c0 D
   go_wp2_with (go_at_fn K;refine(D _ ?nd).mono ?_;(case nd=>exact yv _ _);rintro e w3 ⟨⟨a5,a7,a6⟩,rfl,M,h3⟩;have HR:Hid _:=h3;clear h3;have J:Hid (Bl wr w3):=M;have s3:Hid (wr.heap.size<=w3.heap.size):=J.size;clear M;have q0:=(J.cell (by exact E)).trans (U (k) oaa);have a8:=fun o=>(J.frozen (by exact E)).trans (Z o);have b1:w.heap.size<w3.heap.size:=yC E s3.out)
   go_roundg (n-(k+1))
   case measure=>omega
   case rel =>
    refine⟨k+1,oaa,oaa,by go_num,((hb.trans (J.mono hb.size)).setCell oac _),aN.step O.out I J.out (yr _) ?_ HR.out rfl ((aC.refl (fun b=>b=w.heap.size) _).trans (aC.set (X:=fun b=>b=w.heap.size) _ _ rfl)) (fun F U=>aN.putQu U ⟨a5,a7,a6⟩)⟩;exact s3.out
  ·have:k=n:=oaa;subst this
   go_wp2
   go_ret;exact⟨rfl,hb,O.out⟩
def vZ(x:ERl):Nat->Value
 | 0=>.slice x.sa x.sl x.sc
 | 1=>.slice x.ha x.hl x.hc
 | 2=>.slice x.ia x.il x.ic
 | _=>.slice x.ta x.tl x.tc
theorem Vt(n:Nat)(hn:n<=100000)(w:Wd):(Instr.makeSlice 23 (.int .i64 (n:Int)) (.int .i64 (n:Int))).run prog w=.ok (.slice (some ⟨w.heap.size,0,none⟩) n n) (w.alloc (.cells (madeCells #[.slice none 0 0,.slice none 0 0,.slice none 0 0,.slice none 0 0] (n*4)) 50)):=by
 have I:(prog.info? 50).map (fun i=>(i.zero,i.size,i.bytes))=some (some (.agg #[.slice none 0 0,.slice none 0 0,.slice none 0 0,.slice none 0 0]),4,96):=oad
 obtain⟨i,hi,D,E,F⟩:=info_parts I;have h:=run_make (P:=prog) w 23 50 i _ underlying23 hi D .i64 .i64 n n oaa oaa (by rw[F];omega) oaa;rw[E] at h;simp only[yk] at h;exact h
theorem aN.putRl(h:w.rowIs g 50 (n*4) F)(x:ERl):∃ D,((((w.setCell ⟨g,k*4,none⟩ (.slice x.sa x.sl x.sc)).setCell ⟨g,k*4+1,none⟩ (.slice x.ha x.hl x.hc)).setCell ⟨g,k*4+2,none⟩ (.slice x.ia x.il x.ic)).setCell ⟨g,k*4+3,none⟩ (.slice x.ta x.tl x.tc)).rowIs g 50 (n*4) D/\(∀ j,j<4->D (k*4+j)=vZ x j)/\∀ i,i<k->∀ j,j<4->D (i*4+j)=F (i*4+j):=by
 refine⟨_,(((h.set _ _).set _ _).set _ _).set _ _,fun j E=>?_,fun i hi j E=>?_⟩
 ·rcases(by omega:j=0\/j=1\/j=2\/j=3) with rfl|rfl|rfl|rfl
  ·rw[yd oaa,yd oaa,yd oaa,ye oaa];rfl
  ·rw[yd oaa,yd oaa,ye rfl];rfl
  ·rw[yd oaa,ye rfl];rfl
  ·rw[ye rfl];rfl
 ·rw[yd oaa,yd oaa,yd oaa,yd oaa]
theorem Vu(K:Nat)(eg:∀ args w,(callFunc K args).run prog w=.ok (.enter K args) w)(a:OA)(c n:Nat)(S:Nat->ERl)(R:Nat->ERl->Nat->Nat->World->Prop)(w:Wd)(hn:n<=100000)
  (hs:∀ i,i<n->∃ b o,a=some ⟨b,o,none⟩/\w.cell? ⟨b,o+i*4,none⟩=some (.slice (S i).sa (S i).sl (S i).sc)/\w.cell? ⟨b,o+i*4+1,none⟩=some (.slice (S i).ha (S i).hl (S i).hc)/\w.cell? ⟨b,o+i*4+2,none⟩=some (.slice (S i).ia (S i).il (S i).ic)/\w.cell? ⟨b,o+i*4+3,none⟩=some (.slice (S i).ta (S i).tl (S i).tc))
  (hK:∀ i,i<n->∀ W,Bl w W->yO K #[.agg #[.slice (S i).sa (S i).sl (S i).sc,.slice (S i).ha (S i).hl (S i).hc,.slice (S i).ia (S i).il (S i).ic,.slice (S i).ta (S i).tl (S i).tc]] W fun e U=>∃ y:ERl,e=.returned (.agg #[.slice y.sa y.sl y.sc,.slice y.ha y.hl y.hc,.slice y.ia y.il y.ic,.slice y.ta y.tl y.tc])/\Below W.heap.size W U/\St (fun b=>b<W.heap.size\/U.heap.size<=b) (R i y W.heap.size U.heap.size) U) :
  yO 72 #[.slice a n c,.func (.func K) #[] #[]] w fun e w' => e=.returned (.slice (some ⟨w.heap.size,0,none⟩) n n)/\Below w.heap.size w w' /\ aN vZ 50 4 n R w.heap.size n w' := by
 have HS:Hid _:=hs;have HK:Hid _:=hK;clear hs hK;have c7:=Vt n hn
 go_enter func72,ntmps72
 go_wp2
 go_loopg [13] n (fun m s13 wr=>∃ k:Nat,k<=n/\n-k<=m/\s13=.int .i64 k/\Below w.heap.size w wr/\Hid (aN vZ 50 4 n R w.heap.size k wr))
 case atStart=>exact⟨0,oaa,oaa,rfl,aB _ _,aN.zero w _ 50 4 n R (S 0)⟩
 case round =>
  obtain⟨k,hk,hg,rfl,hb,O⟩:=hrel;by_cases M:k<n
  ·have b8:(k:Int)<(n:Int):=oaa;obtain⟨b,o,rfl,c0,c1,c2,c3⟩:=HS.out k M;replace c0:=aA c0 hb;replace c1:=aA c1 hb;replace c2:=aA c2 hb;replace c3:=aA c3 hb;have b9:b<wr.heap.size:=yi _ _ c0;obtain⟨E,Z,F,T⟩:=O.facts;have D:Hid (∀ W,Bl wr W->Calls _ _ _ _ _):=fun W hW=>HK.out k M W (hb.trans (hW.mono hb.size));generalize S k=x at *;obtain⟨d8,e0,d9,c8,d4,c9,d5,d7,d6,e1,e3,e2⟩:=x;dsimp only at c0 c1 c2 c3 D
   go_wp2_with (go_at_fn K;refine(D _ ?nd).mono ?_;(case nd=>exact aB _ _);rintro e w3 ⟨⟨b1,b3,b2,a5,a7,a6,a8,b0,a9,b4,b6,b5⟩,rfl,J,h3⟩;have HR:Hid _:=h3;clear h3;have I:Hid (Bl wr w3):=(aB _ _).trans (J.mono oac);have s3:Hid (wr.heap.size<=w3.heap.size):=I.size;have SZ:Hid _:=J.size;clear J;have q0:=(I.cell (by exact E)).trans (T (k*4) oaa);have q1:=(I.cell (by exact E)).trans (T (k*4+1) oaa);have q2:=(I.cell (by exact E)).trans (T (k*4+2) oaa);have q3:=(I.cell (by exact E)).trans (T (k*4+3) oaa);have b7:=fun o=>(I.frozen (by exact E)).trans (Z o);have c6:w.heap.size<w3.heap.size:=yC E s3.out)
   go_roundg (n-(k+1))
   case measure=>omega
   case rel =>
    refine⟨k+1,oaa,oaa,by go_num,(((((hb.trans (I.mono hb.size)).setCell oac _).setCell oac _).setCell oac _).setCell oac _),aN.step O.out M I.out oac ?_ HR.out rfl (((((aC.refl (fun b=>b=w.heap.size) _).trans (aC.set (X:=fun b=>b=w.heap.size) _ _ rfl)).trans (aC.set (X:=fun b=>b=w.heap.size) _ _ rfl)).trans (aC.set (X:=fun b=>b=w.heap.size) _ _ rfl)).trans (aC.set (X:=fun b=>b=w.heap.size) _ _ rfl)) (fun F T=>aN.putRl T ⟨b1,b3,b2,a5,a7,a6,a8,b0,a9,b4,b6,b5⟩)⟩;have:=SZ.out;simpa using this
  ·have:k=n:=oaa;subst this
   go_wp2
   go_ret;exact⟨rfl,hb,O.out⟩
theorem Vv(a:OA)(c n:Nat)(D:List Value)(w:Wd)(hn:n<=100000)(hl:D.length=n*5)(E:a=none->n=0)(hsrc:∀ F,a=some F->∀ j u,D[j]?=some u->w.cell? (F.add j)=some u)(h1:∀ u ∈ D,u.oneCell' = true) :
  yO 75 #[.slice a n c] w fun e w' => e=.returned (.slice (some ⟨w.heap.size,0,none⟩) n n)/\Below w.heap.size w w' /\ w'.heap[w.heap.size]?=some (.cells D.toArray 36 (0,0)):=by
 have hz:(prog.info? 36).map (fun i=>(i.zero,i.size,i.bytes))=some (some (.agg #[.int .i64 0,.int .i64 0,.int .i64 0,.int .i64 0,.int .i64 0]),5,40):=oad
 obtain⟨i0,J,a8,O,a9⟩:=info_parts hz
 have b0:∀ w:World,(Instr.makeSlice 34 (.int .i64 (n:Int)) (.int .i64 (n:Int))).run prog w=.ok (.slice (some ⟨w.heap.size,0,none⟩) n n) (w.alloc (.cells (madeCells #[.int .i64 0,.int .i64 0,.int .i64 0,.int .i64 0,.int .i64 0] (n*5)) 36)):=fun w=>by
  have h:=run_make (P:=prog) w 34 36 i0 _ underlying34 J a8 .i64 .i64 n n oaa oaa (by rw[a9];omega) oaa;rw[O] at h;simp only[yk] at h;exact h
 have HG:Hid ((w.alloc (.cells (madeCells #[.int .i64 0,.int .i64 0,.int .i64 0,.int .i64 0,.int .i64 0] (n*5)) 36)).heap[w.heap.size]?=some (.cells (madeCells #[.int .i64 0,.int .i64 0,.int .i64 0,.int .i64 0,.int .i64 0] (n*5)).toList.toArray 36 (0,0))):=by
  have:=yN w (.cells (madeCells #[.int .i64 0,.int .i64 0,.int .i64 0,.int .i64 0,.int .i64 0] (n*5)) 36);show _=_;simpa using this
 have a7:Hid (∀ o1:Obj,∀ F,a=some F->∀ j u,D[j]?=some u->(w.alloc o1).cell? (F.add j)=some u):=fun o1 F e j u hj=>by
  have h1:=hsrc F e j u hj;exact((aB w o1).cell (yi _ _ h1)).trans h1
 have a5:Hid (a=none->n=0):=E;have a6:Hid (∀ u ∈ D,u.oneCell' = true):=h1;have Z:Hid (D.length=n*5):=hl;clear hsrc E h1 hl
 go_enter func75,ntmps75
 go_wp2_with (refine NB rfl (.tmp 7) (.tmp 8) 34 34 rfl 36 i0 5 underlying34 J O w.heap.size n n a c rfl rfl (madeCells #[.int .i64 0,.int .i64 0,.int .i64 0,.int .i64 0,.int .i64 0] (n*5)).toList 36 HG.out D Z.out (by simp[size_madeCells]) a5.out (a7 _) a6.out ?_)
 intro w3 M I;have T:Hid (Bl w w3):=I.out _ _ (aB _ _) (yr _);have U:Hid _:=M;clear M I
 go_wp2
 go_ret;exact⟨rfl,T.out,U.out⟩
theorem Vw(a:OA)(c n:Nat)(D:List Value)(w:Wd)(hn:n<=100000)(hl:D.length=n*5)(E:a=none->n=0)(hsrc:∀ F,a=some F->∀ j u,D[j]?=some u->w.cell? (F.add j)=some u)(h1:∀ u ∈ D,u.oneCell' = true) :
  yO 71 #[.slice a n c] w fun e w' => e=.returned (.slice (some ⟨w.heap.size,0,none⟩) n n)/\Below w.heap.size w w' /\ w'.heap[w.heap.size]?=some (.cells D.toArray 65 (0,0)):=by
 have hz:(prog.info? 65).map (fun i=>(i.zero,i.size,i.bytes))=some (some (.agg #[.int .i64 0,.int .i64 0,.int .i64 0,.int .i64 0,.bool false]),5,40):=oad
 obtain⟨i0,J,a8,O,a9⟩:=info_parts hz
 have b0:∀ w:World,(Instr.makeSlice 22 (.int .i64 (n:Int)) (.int .i64 (n:Int))).run prog w=.ok (.slice (some ⟨w.heap.size,0,none⟩) n n) (w.alloc (.cells (madeCells #[.int .i64 0,.int .i64 0,.int .i64 0,.int .i64 0,.bool false] (n*5)) 65)):=fun w=>by
  have h:=run_make (P:=prog) w 22 65 i0 _ underlying22 J a8 .i64 .i64 n n oaa oaa (by rw[a9];omega) oaa;rw[O] at h;simp only[yk] at h;exact h
 have HG:Hid ((w.alloc (.cells (madeCells #[.int .i64 0,.int .i64 0,.int .i64 0,.int .i64 0,.bool false] (n*5)) 65)).heap[w.heap.size]?=some (.cells (madeCells #[.int .i64 0,.int .i64 0,.int .i64 0,.int .i64 0,.bool false] (n*5)).toList.toArray 65 (0,0))):=by
  have:=yN w (.cells (madeCells #[.int .i64 0,.int .i64 0,.int .i64 0,.int .i64 0,.bool false] (n*5)) 65);show _=_;simpa using this
 have a7:Hid (∀ o1:Obj,∀ F,a=some F->∀ j u,D[j]?=some u->(w.alloc o1).cell? (F.add j)=some u):=fun o1 F e j u hj=>by
  have h1:=hsrc F e j u hj;exact((aB w o1).cell (yi _ _ h1)).trans h1
 have a5:Hid (a=none->n=0):=E;have a6:Hid (∀ u ∈ D,u.oneCell' = true):=h1;have Z:Hid (D.length=n*5):=hl;clear hsrc E h1 hl
 go_enter func71,ntmps71
 go_wp2_with (refine NB rfl (.tmp 7) (.tmp 8) 22 22 rfl 65 i0 5 underlying22 J O w.heap.size n n a c rfl rfl (madeCells #[.int .i64 0,.int .i64 0,.int .i64 0,.int .i64 0,.bool false] (n*5)).toList 65 HG.out D Z.out (by simp[size_madeCells]) a5.out (a7 _) a6.out ?_)
 intro w3 M I;have T:Hid (Bl w w3):=I.out _ _ (aB _ _) (yr _);have U:Hid _:=M;clear M I
 go_wp2
 go_ret;exact⟨rfl,T.out,U.out⟩
def RPg(ps:List (List Ac))(i:Nat)(y:EPg)(lo hi:Nat)(V:Wd):Prop:=y.pl=(pg ps i).length/\dY V y.pa (pg ps i)
theorem Vx(a:OA)(c:Nat)(ps:List (List Ac))(w:Wd)(O:ps.length<=1000)(hK:∀ i,i<ps.length->(pg ps i).length<=40)(h:lQ w a ps) :
  yO 74 #[.slice a ps.length c,.func (.func 75) #[] #[]] w fun e w' => e=.returned (.slice (some ⟨w.heap.size,0,none⟩) ps.length ps.length)/\Below w.heap.size w w' /\ aN sU 34 1 ps.length (RPg ps) w.heap.size ps.length w' := by
 obtain⟨f,F⟩:=XT h;refine Vo 75 (yM func75 oad rfl) a c ps.length (fun i=>⟨(f i).1,(pg ps i).length,(f i).2⟩) (RPg ps) w oaa (fun i hi=>(F i hi).1) (fun i hi V I=>?_);have h1:=(F i hi).2.below I;refine(Vv (f i).1 (f i).2 (pg ps i).length (zT (pg ps i)) V (by have:=hK i hi;omega) (Vi _) (ZC (w:=V) (P:=fun _ _ _=>True) (fun j J=>by obtain⟨b,o,e,_⟩:=h1 j J;exact⟨b,o,e,trivial⟩)) (Vk h1) (Vj _)).mono ?_;rintro e w' ⟨rfl,hb,D⟩;refine⟨⟨some ⟨V.heap.size,0,none⟩,(pg ps i).length,(pg ps i).length⟩,rfl,hb,fun w2 M=>⟨rfl,Vl (ZB ((M.block _ (aR D) (fun E=>?_)).trans D))⟩⟩;have:=aR D;rcases E with E|E <;> omega
def RMl(q:List Ml)(i:Nat)(y:EMl)(lo hi:Nat)(V:Wd):Prop:=y.f=(ml q i).f/\y.gl=(ml q i).g.length/\aO V y.ga (ml q i).g
theorem Vy(f:Int)(ga:OA)(gc:Nat)(G:List Cl)(w:Wd)(h1:G.length<=1000)(h2:∀ i,i<G.length->(cl G i).ks.length<=1000)(hG:aO w ga G) :
  yO 106 #[.agg #[.int .i64 f,.slice ga G.length gc]] w fun e w' => ∃ g,e=.returned (.agg #[.int .i64 f,.slice (some ⟨g,0,none⟩) G.length G.length])/\Below w.heap.size w w' /\ St (fun b=>b<w.heap.size\/w'.heap.size<=b) (fun V=>aO V (some ⟨g,0,none⟩) G) w' := by
 have D:Hid (∀ W,Bl w W->Calls _ _ _ _ _):=fun W hW=>MX ga gc G W h1 h2 (hG.below hW);clear hG h1 h2;obtain⟨l,hl⟩:∃ l,G.length=l:=⟨_,rfl⟩;rw[hl] at D |-;clear hl
 go_enter func106,ntmps106
 go_wp2_with fail
 obtain⟨V,F⟩:∃ V,(w.alloc (.cells #[.int .i64 f,.slice ga l gc] 53)).alloc (.cells #[.int .i64 0,.slice none 0 0] 53)=V:=⟨_,rfl⟩;have v0:V.cell? ⟨w.heap.size,0,none⟩=some (.int .i64 f):=by rw[<- F];exact fE _ _ _ 0 _ rfl
 have v1:V.cell? ⟨w.heap.size,1,none⟩=some (.slice ga l gc):=by rw[<- F];exact fE _ _ _ 1 _ rfl
 have z0:V.cell? ⟨w.heap.size+1,0,none⟩=some (.int .i64 0):=by rw[<- F];exact fF _ _ _ 0 _ rfl
 have z1:V.cell? ⟨w.heap.size+1,1,none⟩=some (.slice none 0 0):=by rw[<- F];exact fF _ _ _ 1 _ rfl
 have zf:∀ o,V.frozen? ⟨w.heap.size+1,o,none⟩=false:=fun o=>by rw[<- F];exact IK _ _ _ _ _
 have O:Hid (Bl w V):=by rw[<- F];exact aM _ _ _
 have sV:w.heap.size+1<V.heap.size:=yi _ _ z0;have a5:w.heap.size<V.heap.size:=yi _ _ v0;rw[F];clear F
 go_region_held3 (fun M=>M.cell? ⟨w.heap.size,0,none⟩=some (.int .i64 f)/\M.cell? ⟨w.heap.size,1,none⟩=some (.slice ga l gc)) (go_keep) (first|(go_at_call 104;refine yj (D _ ?nd) ?_;(case nd=>exact O.drew);rintro e w3 ⟨U,rfl,I,Z,J⟩;have E:Hid (Bl V w3):=(yv V.heap.size V).drew.trans I;have T:Hid (Bl w w3):=O.trans (E.mono O.size);have HC:Hid (St (fun b=>b<V.heap.size\/w3.heap.size<=b) (fun V=>aO V (some ⟨U,0,none⟩) G) w3):=J;have u0:=aA v0 E;have u1:=aA v1 E;have q0:=aA z0 E;have q1:=aA z1 E;have fz:=fun o=>(E.frozen (show (⟨w.heap.size+1,o,none⟩:Addr).block<V.heap.size from sV)).trans (zf o);have s3:w.heap.size+1<w3.heap.size:=yi _ _ q0;clear I J Z))
 go_wp2
 refine yz (v:=.agg #[.int .i64 f,.slice (some ⟨U,0,none⟩) l l]) (by simp[results,results106,go_sem,q0,q1]) rfl ⟨U,rfl,(T.setCell oac _).setCell oac _,?_⟩;refine((HC.off ((aC.set _ _ (Or.inl sV)).trans (aC.set _ _ (Or.inl sV)))).less (fun b hb=>?_));simp only[World.size_setCell] at hb;rcases hb with hb|hb
 ·exact Or.inl oaa
 ·exact Or.inr hb
theorem Vz(a:OA)(c:Nat)(q:List Ml)(w:Wd)(T:q.length<=1000)(hK:∀ i,i<q.length->(ml q i).g.length<=1000/\∀ j,j<(ml q i).g.length->(cl (ml q i).g j).ks.length<=1000)(h:gX w a q) :
  yO 77 #[.slice a q.length c] w fun e w' => e=.returned (.slice (some ⟨w.heap.size,0,none⟩) q.length q.length)/\Below w.heap.size w w' /\ aN vY 53 2 q.length (RMl q) w.heap.size q.length w' := by
 have D:Hid (Calls _ _ _ _ _):=Vq 106 (yM func106 oad rfl) a c q.length (fun i=>⟨(ml q i).f,gA w a i,(ml q i).g.length,gC w a i⟩) (RMl q) w oaa (fun i hi=>XV h hi) (fun i hi V M=>(Vy (ml q i).f _ _ (ml q i).g V (hK i hi).1 (hK i hi).2 ((XW h hi).below M)).mono (fun e w' ⟨g,J,hb,hs⟩=>⟨⟨(ml q i).f,some ⟨g,0,none⟩,(ml q i).g.length,(ml q i).g.length⟩,J,hb,fun w2 O=>⟨rfl,rfl,hs w2 O⟩⟩));clear h hK;generalize q.length=n at *
 go_enter func77,ntmps77
 go_wp2_with (go_at_call 105;refine D.mono ?_;rintro e w3 ⟨rfl,E,F⟩;have I:Hid _:=F;clear F)
 go_ret;exact⟨rfl,E,I.out⟩
def QuF(a:OA)(q:List Ml)(G:Nat->Option Addr × Nat)(V:Wd):Prop:=(∀ D,a=some D->∀ j u,(iL q G)[j]?=some u->V.cell? (D.add j)=some u)/\∀ j,j<q.length->aO V (G j).1 (ml q j).g
theorem We{v:Nat->EMl}{lo hi:Nat->Nat}(O:w.rowIs g 53 (q.length*2) F)(hv:∀ i,i<q.length->(∀ j,j<2->F (i*2+j)=vY (v i) j)/\RMl q i (v i) (lo i) (hi i) w):QuF (some ⟨g,0,none⟩) q (fun j=>((v j).ga,(v j).gc)) w:=by
 refine⟨fun T e j u D=>?_,fun j E=>(hv j E).2.2.2⟩;cases e
 have hl:j<q.length*2:=by
  rcases Nat.lt_or_ge j (q.length*2) with h|h
  ·exact h
  ·rw[List.getElem?_eq_none (by rw[GR];exact h)] at D;cases D
 obtain⟨h1,J,M,_⟩:=hv (j / 2) oaa;have I:=zS (q:=q) (G:=fun j=>((v j).ga,(v j).gc)) (i:=j / 2) oaa;rw[Addr.add_lit,yD,O.cell hl];rcases(by omega:j % 2=0\/j % 2=1) with h|h
 ·have E:j=j / 2*2+0:=oaa
  rw[E] at D |-;rw[h1 0 oaa];rw[Nat.add_zero,I.1] at D;rw[<- D,<- J];rfl
 ·have E:j=j / 2*2+1:=oaa
  rw[E] at D |-;rw[h1 1 oaa];rw[I.2] at D;rw[<- D,<- M];rfl
theorem Wh{B:Nat}(U:B<=g)(h:aN vY 53 2 q.length (RMl q) g q.length w):∃ G,St (fun b=>b<B\/w.heap.size<=b) (QuF (some ⟨g,0,none⟩) q G) w:=by
 obtain⟨v,lo,hi,F,E,hv⟩:=h;have hg:=E.lt;refine⟨fun j=>((v j).ga,(v j).gc),fun w' I=>We (lo:=lo) (hi:=hi) (E.of_block (I.block g hg (by show ¬ (g<B\/w.heap.size<=g);omega))) (fun i D=>?_)⟩;obtain⟨h1,M,O,T,_,J⟩:=hv i D;exact⟨h1,J w' (I.mono (fun b hb=>by have:b<B\/w.heap.size<=b:=hb;show b<lo i\/hi i<=b;omega))⟩
def RQu(qs:List (List Ml))(i:Nat)(y:EQu)(lo hi:Nat)(V:Wd):Prop:=y.ql=(qu qs i).length/\y.qc=(qu qs i).length/\(∃ b,y.qa=some ⟨b,0,none⟩)/\∃ G,St (fun b=>b<lo\/hi<=b) (QuF y.qa (qu qs i) G) V
theorem Wj(a:OA)(c:Nat)(qs:List (List Ml))(w:Wd)(M:qs.length<=1000)(hK:∀ i,i<qs.length->(qu qs i).length<=1000/\∀ j,j<(qu qs i).length->(ml (qu qs i) j).g.length<=1000/\∀ m,m<(ml (qu qs i) j).g.length->(cl (ml (qu qs i) j).g m).ks.length<=1000)(h:qN w a qs) :
  yO 76 #[.slice a qs.length c,.func (.func 77) #[] #[]] w fun e w' => e=.returned (.slice (some ⟨w.heap.size,0,none⟩) qs.length qs.length)/\Below w.heap.size w w' /\ aN sW 51 1 qs.length (RQu qs) w.heap.size qs.length w' := by
 obtain⟨f,D⟩:=XU h;refine Vs 77 (yM func77 oad rfl) a c qs.length (fun i=>⟨(f i).1,(qu qs i).length,(f i).2⟩) (RQu qs) w oaa (fun i hi=>(D i hi).1) (fun i hi V F=>?_);refine(Vz (f i).1 (f i).2 (qu qs i) V (hK i hi).1 (hK i hi).2 ((D i hi).2.below F)).mono ?_;rintro e w' ⟨rfl,hb,J⟩;exact⟨⟨some ⟨V.heap.size,0,none⟩,(qu qs i).length,(qu qs i).length⟩,rfl,hb,fun w2 I=>⟨rfl,rfl,⟨_,rfl⟩,by obtain⟨G,E⟩:=Wh (yr _) J;exact⟨G,E.off I⟩⟩⟩
def RRl(rs:List Rl)(i:Nat)(y:ERl)(lo hi:Nat)(V:Wd):Prop:=∃ A:RA,y=⟨A.a0,(rl rs i).s.length,A.c0,A.a1,(rl rs i).hs.length,A.c1,A.a2,(rl rs i).i.length,A.c2,A.a3,(rl rs i).t.length,A.c3⟩/\A.c3=(rl rs i).t.length/\(∃ b,A.a3=some ⟨b,0,none⟩)/\aU V A (rl rs i)
theorem CI.st{V:Wd}{R:Rl}{h:Nat}{A:RA}(I:CI w R h g A V):St (fun b=>b<w.heap.size) (fun V=>aU V A R) V:=fun E D =>
 ⟨by rw[I.a0];exact I.own.st E (D.mono (fun b hb=>.inl hb)),by rw[I.a1];exact zO (I.row.of_block (D.block h I.row.lt (by have:=I.h0;omega))),I.cls E (D.mono (fun b hb=>.inl hb)),by rw[I.a3];exact wY (I.tr.of_block (D.block _ I.tr.lt (by have:=I.t0;omega)))⟩
theorem Wm(a:OA)(c:Nat)(rs:List Rl)(w:Wd)(J:rs.length<=1000)(hK:∀ i,i<rs.length->bI (rl rs i)=0)(h:kR w a rs) :
  yO 72 #[.slice a rs.length c,.func (.func 73) #[] #[]] w fun e w' => e=.returned (.slice (some ⟨w.heap.size,0,none⟩) rs.length rs.length)/\Below w.heap.size w w' /\ aN vZ 50 4 rs.length (RRl rs) w.heap.size rs.length w' := by
 obtain⟨f,E⟩:=XQ h;refine Vu 73 (yM func73 oad rfl) a c rs.length (fun i=>⟨(f i).a0,(rl rs i).s.length,(f i).c0,(f i).a1,(rl rs i).hs.length,(f i).c1,(f i).a2,(rl rs i).i.length,(f i).c2,(f i).a3,(rl rs i).t.length,(f i).c3⟩) (RRl rs) w oaa (fun i hi=>(E i hi).1) (fun i hi V F=>?_);refine(YG (f i) (rl rs i) V (hK i hi) ((E i hi).2.below F)).mono ?_;rintro e w' ⟨B,h,g,rfl,D⟩;exact⟨⟨B.a0,(rl rs i).s.length,B.c0,B.a1,(rl rs i).hs.length,B.c1,B.a2,(rl rs i).i.length,B.c2,B.a3,(rl rs i).t.length,B.c3⟩,rfl,D.bel,fun w2 I=>⟨B,rfl,D.c3,⟨_,D.a3⟩,D.st.top w2 I⟩⟩
