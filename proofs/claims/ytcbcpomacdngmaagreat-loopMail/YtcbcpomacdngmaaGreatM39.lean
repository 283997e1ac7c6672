/-
  x
-/
import Derived.Test.YtcbcpomacdngmaaGreatM38
namespace Go.Proofs.YtcbcpomacdngmaaGreat
set_option maxRecDepth 100000
set_option maxHeartbeats 4000000
set_option linter.unusedVariables false
open Go.RowKit Go.ChangeShapes Go.WideShapes
def acF(X:List Ac)(j:Nat):Value:=.int .i64 (if j % 5=0 then (ac X (j / 5)).k else if j % 5=1 then (ac X (j / 5)).a else if j % 5=2 then (ac X (j / 5)).b else if j % 5=3 then (ac X (j / 5)).c else (ac X (j / 5)).n)
def zmm(X:List Ac):List Value:=(List.range (X.length*5)).map (acF X)
theorem zqe(X:List Ac):(zmm X).length=X.length*5:=by simp[zmm]
theorem zqf(X:List Ac):∀ v ∈ zmm X,v.oneCell' = true:=fun v D=>by
 obtain⟨j,_,rfl⟩:=List.mem_map.1 D;rfl
theorem ztw{n:Nat}{F:Nat->Value}{j:Nat}{v:Value}(h:((List.range n).map F)[j]?=some v):j<n/\v=F j:=by
 obtain⟨hl,E⟩:=List.getElem?_eq_some_iff.1 h;have D:j<n:=by simpa using hl
 refine⟨D,?_⟩;rw[<- E];simp
theorem zvf{w:World}{a:Option Addr}{X:List Ac}(h:zbE w a X):∀ D,a=some D->∀ j v,(zmm X)[j]?=some v->w.cell? (D.add j)=some v:=fun D e j v F=>by
 obtain⟨hl,rfl⟩:=ztw F;obtain⟨b,o,E,c0,c1,c2,c3,c4⟩:=h (j / 5) (by omega);rw[e] at E;cases E;rw[Addr.add_lit];unfold acF;rcases(by omega:j % 5=0\/j % 5=1\/j % 5=2\/j % 5=3\/j % 5=4) with h|h|h|h|h
 ·rw[yb h,show o+j=o+j / 5*5 by omega,c0]
 ·rw[ya (by omega),yb h,show o+j=o+j / 5*5+1 by omega,c1]
 ·rw[ya (by omega),ya (by omega),yb h,show o+j=o+j / 5*5+2 by omega,c2]
 ·rw[ya (by omega),ya (by omega),ya (by omega),yb h,show o+j=o+j / 5*5+3 by omega,c3]
 ·rw[ya (by omega),ya (by omega),ya (by omega),ya (by omega),show o+j=o+j / 5*5+4 by omega,c4]
theorem zpt{w:World}{g t n:Nat}{F:Nat->Value}(e:w.heap[g]?=some (.cells ((List.range n).map F).toArray t (0,0))):w.rowIs g t n F:=⟨_,e,by simp,fun i hi=>by simp[hi]⟩
theorem zve{w:World}{g:Nat}{X:List Ac}(D:w.rowIs g 36 (X.length*5) (acF X)):zbE w (some ⟨g,0,none⟩) X:=fun i hi=>by
 refine⟨g,0,rfl,?_,?_,?_,?_,?_⟩
 ·rw[yz,D.cell (by omega)];unfold acF;rw[yb (by omega),show i*5 / 5=i by omega]
 ·rw[yz,D.cell (by omega)];unfold acF;rw[ya (by omega),yb (by omega),show (i*5+1) / 5=i by omega]
 ·rw[yz,D.cell (by omega)];unfold acF;rw[ya (by omega),ya (by omega),yb (by omega),show (i*5+2) / 5=i by omega]
 ·rw[yz,D.cell (by omega)];unfold acF;rw[ya (by omega),ya (by omega),ya (by omega),yb (by omega),show (i*5+3) / 5=i by omega]
 ·rw[yz,D.cell (by omega)];unfold acF;rw[ya (by omega),ya (by omega),ya (by omega),ya (by omega),show (i*5+4) / 5=i by omega]
theorem zyf{w:World}{a:Option Addr}{L:List Fr}(h:zaS w a L):∀ D,a=some D->∀ j v,(zbA L)[j]?=some v->w.cell? (D.add j)=some v:=fun D e j v F=>by
 obtain⟨hl,_⟩:=ztw F;obtain⟨b,o,E,_⟩:=h (j / 5) (by omega);rw[e] at E;cases E;rw[e] at h;exact h.src j v F
theorem zxt{w:World}{a:Option Addr}{n:Nat}{P:Nat->Nat->Nat->Prop}(h:∀ i,i<n->∃ b o,a=some ⟨b,o,none⟩/\P i b o):a=none->n=0:=fun e=>by
 by_cases h0:n=0
 ·exact h0
 ·obtain⟨b,o,D,_⟩:=h 0 (by omega);rw[e] at D;cases D
theorem St.top{X:Nat->Prop}{P:World->Prop}{w:World}(h:St X P w):St (fun b=>X b\/w.heap.size<=b) P w:=fun w' D=>h w' ⟨D.size,fun b E F=>D.block b E (fun h=>h.elim F (fun h=>by omega))⟩
def zxS(x:EPg):Nat->Value
 | _=>.slice x.pa x.pl x.pc
theorem zzM(n:Nat)(hn:n<=100000)(w:World):(Instr.makeSlice 24 (.int .i64 (n:Int)) (.int .i64 (n:Int))).run Tryz.prog w=.ok (.slice (some ⟨w.heap.size,0,none⟩) n n) (w.alloc (.cells (madeCells #[.slice none 0 0] (n*1)) 34)):=by
 have I:(Tryz.prog.info? 34).map (fun i=>(i.zero,i.size,i.bytes))=some (some (.slice none 0 0),1,24):=by kernel_rfl
 obtain⟨i,hi,D,E,F⟩:=info_parts I;have h:=run_make (P:=Tryz.prog) w 24 34 i _ Tryz.underlying24 hi D .i64 .i64 n n (by omega) (by omega) (by rw[F];omega) (by omega);rw[E] at h;simp only[yi] at h;exact h
theorem zaA.putPg{w:World}{g n k:Nat}{F:Nat->Value}(h:w.rowIs g 34 (n*1) F)(x:EPg):∃ D,(w.setCell ⟨g,k,none⟩ (.slice x.pa x.pl x.pc)).rowIs g 34 (n*1) D/\(∀ j,j<1->D (k*1+j)=zxS x j)/\∀ i,i<k->∀ j,j<1->D (i*1+j)=F (i*1+j):=by
 refine⟨_,h.set _ _,fun j E=>?_,fun i hi j E=>?_⟩
 ·obtain rfl:j=0:=by omega
  exact yb (by omega)
 ·exact ya (by omega)
theorem zzp(K:Nat)(eg:∀ args w,(callFunc K args).run Tryz.prog w=.ok (.enter K args) w)(a:Option Addr)(c n:Nat)(S:Nat->EPg)(R:Nat->EPg->Nat->Nat->World->Prop)(w:World)(hn:n<=100000)
  (hs:∀ i,i<n->∃ b o,a=some ⟨b,o,none⟩/\w.cell? ⟨b,o+i,none⟩=some (.slice (S i).pa (S i).pl (S i).pc))
  (hK:∀ i,i<n->∀ W,Below w.heap.size w W->yL K #[.slice (S i).pa (S i).pl (S i).pc] W fun e U=>∃ y:EPg,e=.returned (.slice y.pa y.pl y.pc)/\Below W.heap.size W U/\St (fun b=>b<W.heap.size\/U.heap.size<=b) (R i y W.heap.size U.heap.size) U) :
  yL 74 #[.slice a n c,.func (.func K) #[] #[]] w fun e w' => e=.returned (.slice (some ⟨w.heap.size,0,none⟩) n n)/\Below w.heap.size w w' /\ zaA zxS 34 1 n R w.heap.size n w' := by
 have HS:Hid _:=hs;have HK:Hid _:=hK;clear hs hK;have b3:=zzM n hn
 go_enter Tryz.func74,Tryz.ntmps74
 go_wp2
 go_loopg [13] n (fun m s13 wr=>∃ k:Nat,k<=n/\n-k<=m/\s13=.int .i64 k/\Below w.heap.size w wr/\Hid (zaA zxS 34 1 n R w.heap.size k wr))
 case atStart=>exact⟨0,by omega,by omega,rfl,zaa _ _,(by have h:=zaA.zero (cv:=zxS) w #[.slice none 0 0] 34 1 n R (S 0);rw[Nat.mul_one] at h;exact h)⟩
 case round =>
  obtain⟨k,hk,hg,rfl,J,O⟩:=hrel;by_cases I:k<n
  ·have b0:(k:Int)<(n:Int):=(by omega);obtain⟨b,o,rfl,c0⟩:=HS.out k I;replace c0:=zab c0 J;have b1:b<wr.heap.size:=yd _ _ c0;obtain⟨E,a5,F,Z⟩:=O.out.facts;have D:Hid (∀ W,Below wr.heap.size wr W->Calls _ _ _ _ _):=fun W hW=>HK.out k I W (J.trans (hW.mono J.size));generalize S k=x at *;obtain⟨b4,b6,b5⟩:=x;dsimp only at c0 D
   go_wp2_with (go_at_fn K;refine(D.out _ ?nd).mono ?_;(case nd=>exact yk _ _);rintro e w3 ⟨⟨a6,a8,a7⟩,rfl,T,h3⟩;have HR:Hid _:=h3;clear h3;have M:Hid (Below wr.heap.size wr w3):=T;have s3:Hid (wr.heap.size<=w3.heap.size):=M.out.size;clear T;have q0:=(M.out.cell (by exact E)).trans (Z (k) (by omega));have a9:=fun o=>(M.out.frozen (by exact E)).trans (a5 o);have b2:w.heap.size<w3.heap.size:=yx E s3.out)
   go_roundg (n-(k+1))
   case measure=>omega
   case rel =>
    refine⟨k+1,by omega,by omega,by go_num,((J.trans (M.out.mono J.size)).setCell (by simp) _),zaA.step O.out I M.out (yj _) ?_ HR.out rfl ((zar.refl (fun b=>b=w.heap.size) _).trans (zar.set (X:=fun b=>b=w.heap.size) _ _ rfl)) (fun F Z=>zaA.putPg Z ⟨a6,a8,a7⟩)⟩;exact s3.out
  ·have:k=n:=(by omega);subst this
   go_wp2
   go_ret;exact⟨rfl,J,O.out⟩
def zyY(x:EMl):Nat->Value
 | 0=>.int .i64 x.f
 | _=>.slice x.ga x.gl x.gc
theorem zzK(n:Nat)(hn:n<=100000)(w:World):(Instr.makeSlice 51 (.int .i64 (n:Int)) (.int .i64 (n:Int))).run Tryz.prog w=.ok (.slice (some ⟨w.heap.size,0,none⟩) n n) (w.alloc (.cells (madeCells #[.int .i64 0,.slice none 0 0] (n*2)) 53)):=by
 have I:(Tryz.prog.info? 53).map (fun i=>(i.zero,i.size,i.bytes))=some (some (.agg #[.int .i64 0,.slice none 0 0]),2,32):=by kernel_rfl
 obtain⟨i,hi,D,E,F⟩:=info_parts I;have h:=run_make (P:=Tryz.prog) w 51 53 i _ Tryz.underlying51 hi D .i64 .i64 n n (by omega) (by omega) (by rw[F];omega) (by omega);rw[E] at h;simp only[yi] at h;exact h
theorem zaA.putMl{w:World}{g n k:Nat}{F:Nat->Value}(h:w.rowIs g 53 (n*2) F)(x:EMl):∃ D,((w.setCell ⟨g,k*2,none⟩ (.int .i64 x.f)).setCell ⟨g,k*2+1,none⟩ (.slice x.ga x.gl x.gc)).rowIs g 53 (n*2) D/\(∀ j,j<2->D (k*2+j)=zyY x j)/\∀ i,i<k->∀ j,j<2->D (i*2+j)=F (i*2+j):=by
 refine⟨_,(h.set _ _).set _ _,fun j E=>?_,fun i hi j E=>?_⟩
 ·rcases(by omega:j=0\/j=1) with rfl|rfl
  ·rw[ya (by omega),yb (by omega)];rfl
  ·rw[yb rfl];rfl
 ·rw[ya (by omega),ya (by omega)]
theorem zzn(K:Nat)(eg:∀ args w,(callFunc K args).run Tryz.prog w=.ok (.enter K args) w)(a:Option Addr)(c n:Nat)(S:Nat->EMl)(R:Nat->EMl->Nat->Nat->World->Prop)(w:World)(hn:n<=100000)
  (hs:∀ i,i<n->∃ b o,a=some ⟨b,o,none⟩/\w.cell? ⟨b,o+i*2,none⟩=some (.int .i64 (S i).f)/\w.cell? ⟨b,o+i*2+1,none⟩=some (.slice (S i).ga (S i).gl (S i).gc))
  (hK:∀ i,i<n->∀ W,Below w.heap.size w W->yL K #[.agg #[.int .i64 (S i).f,.slice (S i).ga (S i).gl (S i).gc]] W fun e U=>∃ y:EMl,e=.returned (.agg #[.int .i64 y.f,.slice y.ga y.gl y.gc])/\Below W.heap.size W U/\St (fun b=>b<W.heap.size\/U.heap.size<=b) (R i y W.heap.size U.heap.size) U) :
  yL 105 #[.slice a n c,.func (.func K) #[] #[]] w fun e w' => e=.returned (.slice (some ⟨w.heap.size,0,none⟩) n n)/\Below w.heap.size w w' /\ zaA zyY 53 2 n R w.heap.size n w' := by
 have HS:Hid _:=hs;have HK:Hid _:=hK;clear hs hK;have b3:=zzK n hn
 go_enter Tryz.func105,Tryz.ntmps105
 go_wp2
 go_loopg [13] n (fun m s13 wr=>∃ k:Nat,k<=n/\n-k<=m/\s13=.int .i64 k/\Below w.heap.size w wr/\Hid (zaA zyY 53 2 n R w.heap.size k wr))
 case atStart=>exact⟨0,by omega,by omega,rfl,zaa _ _,zaA.zero w _ 53 2 n R (S 0)⟩
 case round =>
  obtain⟨k,hk,hg,rfl,I,O⟩:=hrel;by_cases M:k<n
  ·have b0:(k:Int)<(n:Int):=(by omega);obtain⟨b,o,rfl,c0,c1⟩:=HS.out k M;replace c0:=zab c0 I;replace c1:=zab c1 I;have b1:b<wr.heap.size:=yd _ _ c0;obtain⟨E,a5,F,Z⟩:=O.out.facts;have D:Hid (∀ W,Below wr.heap.size wr W->Calls _ _ _ _ _):=fun W hW=>HK.out k M W (I.trans (hW.mono I.size));generalize S k=x at *;obtain⟨xf,b4,b6,b5⟩:=x;dsimp only at c0 c1 D
   go_wp2_with (go_at_fn K;refine(D.out _ ?nd).mono ?_;(case nd=>exact zaa _ _);rintro e w3 ⟨⟨yf,a6,a8,a7⟩,rfl,J,h3⟩;have HR:Hid _:=h3;clear h3;have T:Hid (Below wr.heap.size wr w3):=(zaa _ _).trans (J.mono (by simp));have s3:Hid (wr.heap.size<=w3.heap.size):=T.out.size;have SZ:Hid _:=J.size;clear J;have q0:=(T.out.cell (by exact E)).trans (Z (k*2) (by omega));have q1:=(T.out.cell (by exact E)).trans (Z (k*2+1) (by omega));have a9:=fun o=>(T.out.frozen (by exact E)).trans (a5 o);have b2:w.heap.size<w3.heap.size:=yx E s3.out)
   go_roundg (n-(k+1))
   case measure=>omega
   case rel =>
    refine⟨k+1,by omega,by omega,by go_num,(((I.trans (T.out.mono I.size)).setCell (by simp) _).setCell (by simp) _),zaA.step O.out M T.out (by simp) ?_ HR.out rfl (((zar.refl (fun b=>b=w.heap.size) _).trans (zar.set (X:=fun b=>b=w.heap.size) _ _ rfl)).trans (zar.set (X:=fun b=>b=w.heap.size) _ _ rfl)) (fun F Z=>zaA.putMl Z ⟨yf,a6,a8,a7⟩)⟩;have:=SZ.out;simpa using this
  ·have:k=n:=(by omega);subst this
   go_wp2
   go_ret;exact⟨rfl,I,O.out⟩
def zxT(x:EQu):Nat->Value
 | _=>.slice x.qa x.ql x.qc
theorem zzP(n:Nat)(hn:n<=100000)(w:World):(Instr.makeSlice 25 (.int .i64 (n:Int)) (.int .i64 (n:Int))).run Tryz.prog w=.ok (.slice (some ⟨w.heap.size,0,none⟩) n n) (w.alloc (.cells (madeCells #[.slice none 0 0] (n*1)) 51)):=by
 have I:(Tryz.prog.info? 51).map (fun i=>(i.zero,i.size,i.bytes))=some (some (.slice none 0 0),1,24):=by kernel_rfl
 obtain⟨i,hi,D,E,F⟩:=info_parts I;have h:=run_make (P:=Tryz.prog) w 25 51 i _ Tryz.underlying25 hi D .i64 .i64 n n (by omega) (by omega) (by rw[F];omega) (by omega);rw[E] at h;simp only[yi] at h;exact h
theorem zaA.putQu{w:World}{g n k:Nat}{F:Nat->Value}(h:w.rowIs g 51 (n*1) F)(x:EQu):∃ D,(w.setCell ⟨g,k,none⟩ (.slice x.qa x.ql x.qc)).rowIs g 51 (n*1) D/\(∀ j,j<1->D (k*1+j)=zxT x j)/\∀ i,i<k->∀ j,j<1->D (i*1+j)=F (i*1+j):=by
 refine⟨_,h.set _ _,fun j E=>?_,fun i hi j E=>?_⟩
 ·obtain rfl:j=0:=by omega
  exact yb (by omega)
 ·exact ya (by omega)
theorem zzr(K:Nat)(eg:∀ args w,(callFunc K args).run Tryz.prog w=.ok (.enter K args) w)(a:Option Addr)(c n:Nat)(S:Nat->EQu)(R:Nat->EQu->Nat->Nat->World->Prop)(w:World)(hn:n<=100000)
  (hs:∀ i,i<n->∃ b o,a=some ⟨b,o,none⟩/\w.cell? ⟨b,o+i,none⟩=some (.slice (S i).qa (S i).ql (S i).qc))
  (hK:∀ i,i<n->∀ W,Below w.heap.size w W->yL K #[.slice (S i).qa (S i).ql (S i).qc] W fun e U=>∃ y:EQu,e=.returned (.slice y.qa y.ql y.qc)/\Below W.heap.size W U/\St (fun b=>b<W.heap.size\/U.heap.size<=b) (R i y W.heap.size U.heap.size) U) :
  yL 76 #[.slice a n c,.func (.func K) #[] #[]] w fun e w' => e=.returned (.slice (some ⟨w.heap.size,0,none⟩) n n)/\Below w.heap.size w w' /\ zaA zxT 51 1 n R w.heap.size n w' := by
 have HS:Hid _:=hs;have HK:Hid _:=hK;clear hs hK;have b3:=zzP n hn
 go_enter Tryz.func76,Tryz.ntmps76
 go_wp2
 go_loopg [13] n (fun m s13 wr=>∃ k:Nat,k<=n/\n-k<=m/\s13=.int .i64 k/\Below w.heap.size w wr/\Hid (zaA zxT 51 1 n R w.heap.size k wr))
 case atStart=>exact⟨0,by omega,by omega,rfl,zaa _ _,(by have h:=zaA.zero (cv:=zxT) w #[.slice none 0 0] 51 1 n R (S 0);rw[Nat.mul_one] at h;exact h)⟩
 case round =>
  obtain⟨k,hk,hg,rfl,J,O⟩:=hrel;by_cases I:k<n
  ·have b0:(k:Int)<(n:Int):=(by omega);obtain⟨b,o,rfl,c0⟩:=HS.out k I;replace c0:=zab c0 J;have b1:b<wr.heap.size:=yd _ _ c0;obtain⟨E,a5,F,Z⟩:=O.out.facts;have D:Hid (∀ W,Below wr.heap.size wr W->Calls _ _ _ _ _):=fun W hW=>HK.out k I W (J.trans (hW.mono J.size));generalize S k=x at *;obtain⟨b4,b6,b5⟩:=x;dsimp only at c0 D
   go_wp2_with (go_at_fn K;refine(D.out _ ?nd).mono ?_;(case nd=>exact yk _ _);rintro e w3 ⟨⟨a6,a8,a7⟩,rfl,T,h3⟩;have HR:Hid _:=h3;clear h3;have M:Hid (Below wr.heap.size wr w3):=T;have s3:Hid (wr.heap.size<=w3.heap.size):=M.out.size;clear T;have q0:=(M.out.cell (by exact E)).trans (Z (k) (by omega));have a9:=fun o=>(M.out.frozen (by exact E)).trans (a5 o);have b2:w.heap.size<w3.heap.size:=yx E s3.out)
   go_roundg (n-(k+1))
   case measure=>omega
   case rel =>
    refine⟨k+1,by omega,by omega,by go_num,((J.trans (M.out.mono J.size)).setCell (by simp) _),zaA.step O.out I M.out (yj _) ?_ HR.out rfl ((zar.refl (fun b=>b=w.heap.size) _).trans (zar.set (X:=fun b=>b=w.heap.size) _ _ rfl)) (fun F Z=>zaA.putQu Z ⟨a6,a8,a7⟩)⟩;exact s3.out
  ·have:k=n:=(by omega);subst this
   go_wp2
   go_ret;exact⟨rfl,J,O.out⟩
def zza(x:ERl):Nat->Value
 | 0=>.slice x.sa x.sl x.sc
 | 1=>.slice x.ha x.hl x.hc
 | 2=>.slice x.ia x.il x.ic
 | _=>.slice x.ta x.tl x.tc
theorem zzQ(n:Nat)(hn:n<=100000)(w:World):(Instr.makeSlice 23 (.int .i64 (n:Int)) (.int .i64 (n:Int))).run Tryz.prog w=.ok (.slice (some ⟨w.heap.size,0,none⟩) n n) (w.alloc (.cells (madeCells #[.slice none 0 0,.slice none 0 0,.slice none 0 0,.slice none 0 0] (n*4)) 50)):=by
 have I:(Tryz.prog.info? 50).map (fun i=>(i.zero,i.size,i.bytes))=some (some (.agg #[.slice none 0 0,.slice none 0 0,.slice none 0 0,.slice none 0 0]),4,96):=by kernel_rfl
 obtain⟨i,hi,D,E,F⟩:=info_parts I;have h:=run_make (P:=Tryz.prog) w 23 50 i _ Tryz.underlying23 hi D .i64 .i64 n n (by omega) (by omega) (by rw[F];omega) (by omega);rw[E] at h;simp only[yi] at h;exact h
theorem zaA.putRl{w:World}{g n k:Nat}{F:Nat->Value}(h:w.rowIs g 50 (n*4) F)(x:ERl):∃ D,((((w.setCell ⟨g,k*4,none⟩ (.slice x.sa x.sl x.sc)).setCell ⟨g,k*4+1,none⟩ (.slice x.ha x.hl x.hc)).setCell ⟨g,k*4+2,none⟩ (.slice x.ia x.il x.ic)).setCell ⟨g,k*4+3,none⟩ (.slice x.ta x.tl x.tc)).rowIs g 50 (n*4) D/\(∀ j,j<4->D (k*4+j)=zza x j)/\∀ i,i<k->∀ j,j<4->D (i*4+j)=F (i*4+j):=by
 refine⟨_,(((h.set _ _).set _ _).set _ _).set _ _,fun j E=>?_,fun i hi j E=>?_⟩
 ·rcases(by omega:j=0\/j=1\/j=2\/j=3) with rfl|rfl|rfl|rfl
  ·rw[ya (by omega),ya (by omega),ya (by omega),yb (by omega)];rfl
  ·rw[ya (by omega),ya (by omega),yb rfl];rfl
  ·rw[ya (by omega),yb rfl];rfl
  ·rw[yb rfl];rfl
 ·rw[ya (by omega),ya (by omega),ya (by omega),ya (by omega)]
theorem zzs(K:Nat)(eg:∀ args w,(callFunc K args).run Tryz.prog w=.ok (.enter K args) w)(a:Option Addr)(c n:Nat)(S:Nat->ERl)(R:Nat->ERl->Nat->Nat->World->Prop)(w:World)(hn:n<=100000)
  (hs:∀ i,i<n->∃ b o,a=some ⟨b,o,none⟩/\w.cell? ⟨b,o+i*4,none⟩=some (.slice (S i).sa (S i).sl (S i).sc)/\w.cell? ⟨b,o+i*4+1,none⟩=some (.slice (S i).ha (S i).hl (S i).hc)/\w.cell? ⟨b,o+i*4+2,none⟩=some (.slice (S i).ia (S i).il (S i).ic)/\w.cell? ⟨b,o+i*4+3,none⟩=some (.slice (S i).ta (S i).tl (S i).tc))
  (hK:∀ i,i<n->∀ W,Below w.heap.size w W->yL K #[.agg #[.slice (S i).sa (S i).sl (S i).sc,.slice (S i).ha (S i).hl (S i).hc,.slice (S i).ia (S i).il (S i).ic,.slice (S i).ta (S i).tl (S i).tc]] W fun e Z=>∃ y:ERl,e=.returned (.agg #[.slice y.sa y.sl y.sc,.slice y.ha y.hl y.hc,.slice y.ia y.il y.ic,.slice y.ta y.tl y.tc])/\Below W.heap.size W Z/\St (fun b=>b<W.heap.size\/Z.heap.size<=b) (R i y W.heap.size Z.heap.size) Z) :
  yL 72 #[.slice a n c,.func (.func K) #[] #[]] w fun e w' => e=.returned (.slice (some ⟨w.heap.size,0,none⟩) n n)/\Below w.heap.size w w' /\ zaA zza 50 4 n R w.heap.size n w' := by
 have HS:Hid _:=hs;have HK:Hid _:=hK;clear hs hK;have c8:=zzQ n hn
 go_enter Tryz.func72,Tryz.ntmps72
 go_wp2
 go_loopg [13] n (fun m s13 wr=>∃ k:Nat,k<=n/\n-k<=m/\s13=.int .i64 k/\Below w.heap.size w wr/\Hid (zaA zza 50 4 n R w.heap.size k wr))
 case atStart=>exact⟨0,by omega,by omega,rfl,zaa _ _,zaA.zero w _ 50 4 n R (S 0)⟩
 case round =>
  obtain⟨k,hk,hg,rfl,I,O⟩:=hrel;by_cases T:k<n
  ·have b9:(k:Int)<(n:Int):=(by omega);obtain⟨b,o,rfl,c0,c1,c2,c3⟩:=HS.out k T;replace c0:=zab c0 I;replace c1:=zab c1 I;replace c2:=zab c2 I;replace c3:=zab c3 I;have c6:b<wr.heap.size:=yd _ _ c0;obtain⟨E,a5,F,U⟩:=O.out.facts;have D:Hid (∀ W,Below wr.heap.size wr W->Calls _ _ _ _ _):=fun W hW=>HK.out k T W (I.trans (hW.mono I.size));generalize S k=x at *;obtain⟨d9,e1,e0,c9,d5,d4,d6,d8,d7,e2,e4,e3⟩:=x;dsimp only at c0 c1 c2 c3 D
   go_wp2_with (go_at_fn K;refine(D.out _ ?nd).mono ?_;(case nd=>exact zaa _ _);rintro e w3 ⟨⟨b2,b4,b3,a6,a8,a7,a9,b1,b0,b5,b7,b6⟩,rfl,M,h3⟩;have HR:Hid _:=h3;clear h3;have J:Hid (Below wr.heap.size wr w3):=(zaa _ _).trans (M.mono (by simp));have s3:Hid (wr.heap.size<=w3.heap.size):=J.out.size;have SZ:Hid _:=M.size;clear M;have q0:=(J.out.cell (by exact E)).trans (U (k*4) (by omega));have q1:=(J.out.cell (by exact E)).trans (U (k*4+1) (by omega));have q2:=(J.out.cell (by exact E)).trans (U (k*4+2) (by omega));have q3:=(J.out.cell (by exact E)).trans (U (k*4+3) (by omega));have b8:=fun o=>(J.out.frozen (by exact E)).trans (a5 o);have c7:w.heap.size<w3.heap.size:=yx E s3.out)
   go_roundg (n-(k+1))
   case measure=>omega
   case rel =>
    refine⟨k+1,by omega,by omega,by go_num,(((((I.trans (J.out.mono I.size)).setCell (by simp) _).setCell (by simp) _).setCell (by simp) _).setCell (by simp) _),zaA.step O.out T J.out (by simp) ?_ HR.out rfl (((((zar.refl (fun b=>b=w.heap.size) _).trans (zar.set (X:=fun b=>b=w.heap.size) _ _ rfl)).trans (zar.set (X:=fun b=>b=w.heap.size) _ _ rfl)).trans (zar.set (X:=fun b=>b=w.heap.size) _ _ rfl)).trans (zar.set (X:=fun b=>b=w.heap.size) _ _ rfl)) (fun F U=>zaA.putRl U ⟨b2,b4,b3,a6,a8,a7,a9,b1,b0,b5,b7,b6⟩)⟩;have:=SZ.out;simpa using this
  ·have:k=n:=(by omega);subst this
   go_wp2
   go_ret;exact⟨rfl,I,O.out⟩
theorem zxM(a:Option Addr)(c n:Nat)(D:List Value)(w:World)(hn:n<=100000)(hl:D.length=n*5)(E:a=none->n=0)(hsrc:∀ F,a=some F->∀ j u,D[j]?=some u->w.cell? (F.add j)=some u)(h1:∀ u ∈ D,u.oneCell' = true) :
  yL 75 #[.slice a n c] w fun e w' => e=.returned (.slice (some ⟨w.heap.size,0,none⟩) n n)/\Below w.heap.size w w' /\ w'.heap[w.heap.size]?=some (.cells D.toArray 36 (0,0)):=by
 have hz:(Tryz.prog.info? 36).map (fun i=>(i.zero,i.size,i.bytes))=some (some (.agg #[.int .i64 0,.int .i64 0,.int .i64 0,.int .i64 0,.int .i64 0]),5,40):=by kernel_rfl
 obtain⟨i0,J,a8,O,a9⟩:=info_parts hz
 have b0:∀ w:World,(Instr.makeSlice 34 (.int .i64 (n:Int)) (.int .i64 (n:Int))).run Tryz.prog w=.ok (.slice (some ⟨w.heap.size,0,none⟩) n n) (w.alloc (.cells (madeCells #[.int .i64 0,.int .i64 0,.int .i64 0,.int .i64 0,.int .i64 0] (n*5)) 36)):=fun w=>by
  have h:=run_make (P:=Tryz.prog) w 34 36 i0 _ Tryz.underlying34 J a8 .i64 .i64 n n (by omega) (by omega) (by rw[a9];omega) (by omega);rw[O] at h;simp only[yi] at h;exact h
 have HG:Hid ((w.alloc (.cells (madeCells #[.int .i64 0,.int .i64 0,.int .i64 0,.int .i64 0,.int .i64 0] (n*5)) 36)).heap[w.heap.size]?=some (.cells (madeCells #[.int .i64 0,.int .i64 0,.int .i64 0,.int .i64 0,.int .i64 0] (n*5)).toList.toArray 36 (0,0))):=by
  have:=yK w (.cells (madeCells #[.int .i64 0,.int .i64 0,.int .i64 0,.int .i64 0,.int .i64 0] (n*5)) 36);show _=_;simpa using this
 have a7:Hid (∀ o1:Obj,∀ F,a=some F->∀ j u,D[j]?=some u->(w.alloc o1).cell? (F.add j)=some u):=fun o1 F e j u hj=>by
  have h1:=hsrc F e j u hj;exact((zaa w o1).cell (yd _ _ h1)).trans h1
 have a5:Hid (a=none->n=0):=E;have a6:Hid (∀ u ∈ D,u.oneCell' = true):=h1;have Z:Hid (D.length=n*5):=hl;clear hsrc E h1 hl
 go_enter Tryz.func75,Tryz.ntmps75
 go_wp2_with (refine zcX rfl (.tmp 7) (.tmp 8) 34 34 rfl 36 i0 5 Tryz.underlying34 J O w.heap.size n n a c rfl rfl (madeCells #[.int .i64 0,.int .i64 0,.int .i64 0,.int .i64 0,.int .i64 0] (n*5)).toList 36 HG.out D Z.out (by simp[size_madeCells]) a5.out (a7.out _) a6.out ?_)
 intro w3 M I;have T:Hid (Below w.heap.size w w3):=I.out _ _ (zaa _ _) (yj _);have U:Hid _:=M;clear M I
 go_wp2
 go_ret;exact⟨rfl,T.out,U.out⟩
theorem zxN(a:Option Addr)(c n:Nat)(D:List Value)(w:World)(hn:n<=100000)(hl:D.length=n*5)(E:a=none->n=0)(hsrc:∀ F,a=some F->∀ j u,D[j]?=some u->w.cell? (F.add j)=some u)(h1:∀ u ∈ D,u.oneCell' = true) :
  yL 71 #[.slice a n c] w fun e w' => e=.returned (.slice (some ⟨w.heap.size,0,none⟩) n n)/\Below w.heap.size w w' /\ w'.heap[w.heap.size]?=some (.cells D.toArray 65 (0,0)):=by
 have hz:(Tryz.prog.info? 65).map (fun i=>(i.zero,i.size,i.bytes))=some (some (.agg #[.int .i64 0,.int .i64 0,.int .i64 0,.int .i64 0,.bool false]),5,40):=by kernel_rfl
 obtain⟨i0,J,a8,O,a9⟩:=info_parts hz
 have b0:∀ w:World,(Instr.makeSlice 22 (.int .i64 (n:Int)) (.int .i64 (n:Int))).run Tryz.prog w=.ok (.slice (some ⟨w.heap.size,0,none⟩) n n) (w.alloc (.cells (madeCells #[.int .i64 0,.int .i64 0,.int .i64 0,.int .i64 0,.bool false] (n*5)) 65)):=fun w=>by
  have h:=run_make (P:=Tryz.prog) w 22 65 i0 _ Tryz.underlying22 J a8 .i64 .i64 n n (by omega) (by omega) (by rw[a9];omega) (by omega);rw[O] at h;simp only[yi] at h;exact h
 have HG:Hid ((w.alloc (.cells (madeCells #[.int .i64 0,.int .i64 0,.int .i64 0,.int .i64 0,.bool false] (n*5)) 65)).heap[w.heap.size]?=some (.cells (madeCells #[.int .i64 0,.int .i64 0,.int .i64 0,.int .i64 0,.bool false] (n*5)).toList.toArray 65 (0,0))):=by
  have:=yK w (.cells (madeCells #[.int .i64 0,.int .i64 0,.int .i64 0,.int .i64 0,.bool false] (n*5)) 65);show _=_;simpa using this
 have a7:Hid (∀ o1:Obj,∀ F,a=some F->∀ j u,D[j]?=some u->(w.alloc o1).cell? (F.add j)=some u):=fun o1 F e j u hj=>by
  have h1:=hsrc F e j u hj;exact((zaa w o1).cell (yd _ _ h1)).trans h1
 have a5:Hid (a=none->n=0):=E;have a6:Hid (∀ u ∈ D,u.oneCell' = true):=h1;have Z:Hid (D.length=n*5):=hl;clear hsrc E h1 hl
 go_enter Tryz.func71,Tryz.ntmps71
 go_wp2_with (refine zcX rfl (.tmp 7) (.tmp 8) 22 22 rfl 65 i0 5 Tryz.underlying22 J O w.heap.size n n a c rfl rfl (madeCells #[.int .i64 0,.int .i64 0,.int .i64 0,.int .i64 0,.bool false] (n*5)).toList 65 HG.out D Z.out (by simp[size_madeCells]) a5.out (a7.out _) a6.out ?_)
 intro w3 M I;have T:Hid (Below w.heap.size w w3):=I.out _ _ (zaa _ _) (yj _);have U:Hid _:=M;clear M I
 go_wp2
 go_ret;exact⟨rfl,T.out,U.out⟩
def RPg(ps:List (List Ac))(i:Nat)(y:EPg)(lo hi:Nat)(V:World):Prop:=y.pl=(pg ps i).length/\zbE V y.pa (pg ps i)
theorem zqp(a:Option Addr)(c:Nat)(ps:List (List Ac))(w:World)(T:ps.length<=1000)(hK:∀ i,i<ps.length->(pg ps i).length<=40)(h:zjW w a ps) :
  yL 74 #[.slice a ps.length c,.func (.func 75) #[] #[]] w fun e w' => e=.returned (.slice (some ⟨w.heap.size,0,none⟩) ps.length ps.length)/\Below w.heap.size w w' /\ zaA zxS 34 1 ps.length (RPg ps) w.heap.size ps.length w' := by
 obtain⟨f,F⟩:=zpB h;refine zzp 75 (yJ Tryz.func75 (by kernel_rfl) rfl) a c ps.length (fun i=>⟨(f i).1,(pg ps i).length,(f i).2⟩) (RPg ps) w (by omega) (fun i hi=>(F i hi).1) (fun i hi V I=>?_);have h1:=(F i hi).2.below I;refine(zxM (f i).1 (f i).2 (pg ps i).length (zmm (pg ps i)) V (by have:=hK i hi;omega) (zqe _) (zxt (w:=V) (P:=fun _ _ _=>True) (fun j M=>by obtain⟨b,o,e,_⟩:=h1 j M;exact⟨b,o,e,trivial⟩)) (zvf h1) (zqf _)).mono ?_;rintro e w' ⟨rfl,J,D⟩;refine⟨⟨some ⟨V.heap.size,0,none⟩,(pg ps i).length,(pg ps i).length⟩,rfl,J,fun U O=>⟨rfl,zve (zpt ((O.block _ (zau D) (fun E=>?_)).trans D))⟩⟩;have:=zau D;rcases E with E|E <;> omega
def RMl(q:List Ml)(i:Nat)(y:EMl)(lo hi:Nat)(V:World):Prop:=y.f=(ml q i).f/\y.gl=(ml q i).g.length/\zaF V y.ga (ml q i).g
theorem zsv(f:Int)(ga:Option Addr)(gc:Nat)(G:List Cl)(w:World)(h1:G.length<=1000)(h2:∀ i,i<G.length->(cl G i).ks.length<=1000)(hG:zaF w ga G) :
  yL 106 #[.agg #[.int .i64 f,.slice ga G.length gc]] w fun e w' => ∃ g,e=.returned (.agg #[.int .i64 f,.slice (some ⟨g,0,none⟩) G.length G.length])/\Below w.heap.size w w' /\ St (fun b=>b<w.heap.size\/w'.heap.size<=b) (fun V=>zaF V (some ⟨g,0,none⟩) G) w' := by
 have D:Hid (∀ W,Below w.heap.size w W->Calls _ _ _ _ _):=fun W hW=>zht ga gc G W h1 h2 (hG.below hW);clear hG h1 h2;obtain⟨l,hl⟩:∃ l,G.length=l:=⟨_,rfl⟩;rw[hl] at D |-;clear hl
 go_enter Tryz.func106,Tryz.ntmps106
 go_wp2_with fail
 obtain⟨V,F⟩:∃ V,(w.alloc (.cells #[.int .i64 f,.slice ga l gc] 53)).alloc (.cells #[.int .i64 0,.slice none 0 0] 53)=V:=⟨_,rfl⟩;have v0:V.cell? ⟨w.heap.size,0,none⟩=some (.int .i64 f):=by rw[<- F];exact zaM _ _ _ 0 _ rfl
 have v1:V.cell? ⟨w.heap.size,1,none⟩=some (.slice ga l gc):=by rw[<- F];exact zaM _ _ _ 1 _ rfl
 have z0:V.cell? ⟨w.heap.size+1,0,none⟩=some (.int .i64 0):=by rw[<- F];exact zaN _ _ _ 0 _ rfl
 have z1:V.cell? ⟨w.heap.size+1,1,none⟩=some (.slice none 0 0):=by rw[<- F];exact zaN _ _ _ 1 _ rfl
 have zf:∀ o,V.frozen? ⟨w.heap.size+1,o,none⟩=false:=fun o=>by rw[<- F];exact ziL _ _ _ _ _
 have T:Hid (Below w.heap.size w V):=by rw[<- F];exact zam _ _ _
 have sV:w.heap.size+1<V.heap.size:=yd _ _ z0;have a6:w.heap.size<V.heap.size:=yd _ _ v0;rw[F];clear F
 go_region_held3 (fun O=>O.cell? ⟨w.heap.size,0,none⟩=some (.int .i64 f)/\O.cell? ⟨w.heap.size,1,none⟩=some (.slice ga l gc)) (go_keep) (first|(go_at_call 104;refine ye (D.out _ ?nd) ?_;(case nd=>exact T.out.drew);rintro e w3 ⟨Z,rfl,J,a5,M⟩;have E:Hid (Below V.heap.size V w3):=(yk V.heap.size V).drew.trans J;have U:Hid (Below w.heap.size w w3):=T.out.trans (E.out.mono T.out.size);have HC:Hid (St (fun b=>b<V.heap.size\/w3.heap.size<=b) (fun V=>zaF V (some ⟨Z,0,none⟩) G) w3):=M;have u0:=zab v0 E.out;have u1:=zab v1 E.out;have q0:=zab z0 E.out;have q1:=zab z1 E.out;have fz:=fun o=>(E.out.frozen (show (⟨w.heap.size+1,o,none⟩:Addr).block<V.heap.size from sV)).trans (zf o);have s3:w.heap.size+1<w3.heap.size:=yd _ _ q0;clear J M a5))
 go_wp2
 refine yv (v:=.agg #[.int .i64 f,.slice (some ⟨Z,0,none⟩) l l]) (by simp[results,Tryz.results106,go_sem,q0,q1]) rfl ⟨Z,rfl,(U.out.setCell (by simp) _).setCell (by simp) _,?_⟩;refine((HC.out.off ((zar.set _ _ (Or.inl sV)).trans (zar.set _ _ (Or.inl sV)))).less (fun b I=>?_));simp only[World.size_setCell] at I;rcases I with I|I
 ·exact Or.inl (by omega)
 ·exact Or.inr I
theorem zqq(a:Option Addr)(c:Nat)(q:List Ml)(w:World)(Z:q.length<=1000)(hK:∀ i,i<q.length->(ml q i).g.length<=1000/\∀ j,j<(ml q i).g.length->(cl (ml q i).g j).ks.length<=1000)(h:ziq w a q) :
  yL 77 #[.slice a q.length c] w fun e w' => e=.returned (.slice (some ⟨w.heap.size,0,none⟩) q.length q.length)/\Below w.heap.size w w' /\ zaA zyY 53 2 q.length (RMl q) w.heap.size q.length w' := by
 have D:Hid (Calls _ _ _ _ _):=zzn 106 (yJ Tryz.func106 (by kernel_rfl) rfl) a c q.length (fun i=>⟨(ml q i).f,gA w a i,(ml q i).g.length,gC w a i⟩) (RMl q) w (by omega) (fun i hi=>zzw h hi) (fun i hi V M=>(zsv (ml q i).f _ _ (ml q i).g V (hK i hi).1 (hK i hi).2 ((zxm h hi).below M)).mono (fun e w' ⟨g,J,O,hs⟩=>⟨⟨(ml q i).f,some ⟨g,0,none⟩,(ml q i).g.length,(ml q i).g.length⟩,J,O,fun U T=>⟨rfl,rfl,hs U T⟩⟩));clear h hK;generalize q.length=n at *
 go_enter Tryz.func77,Tryz.ntmps77
 go_wp2_with (go_at_call 105;refine D.out.mono ?_;rintro e w3 ⟨rfl,E,F⟩;have I:Hid _:=F;clear F)
 go_ret;exact⟨rfl,E,I.out⟩
def QuF(a:Option Addr)(q:List Ml)(G:Nat->Option Addr × Nat)(V:World):Prop:=(∀ D,a=some D->∀ j u,(zcv q G)[j]?=some u->V.cell? (D.add j)=some u)/\∀ j,j<q.length->zaF V (G j).1 (ml q j).g
theorem zzU{w:World}{g:Nat}{q:List Ml}{v:Nat->EMl}{lo hi:Nat->Nat}{F:Nat->Value}(T:w.rowIs g 53 (q.length*2) F)(J:∀ i,i<q.length->(∀ j,j<2->F (i*2+j)=zyY (v i) j)/\RMl q i (v i) (lo i) (hi i) w):QuF (some ⟨g,0,none⟩) q (fun j=>((v j).ga,(v j).gc)) w:=by
 refine⟨fun U e j u D=>?_,fun j E=>(J j E).2.2.2⟩;cases e
 have hl:j<q.length*2:=by
  rcases Nat.lt_or_ge j (q.length*2) with h|h
  ·exact h
  ·rw[List.getElem?_eq_none (by rw[zfN];exact h)] at D;cases D
 obtain⟨h1,M,O,_⟩:=J (j / 2) (by omega);have I:=zfv (q:=q) (G:=fun j=>((v j).ga,(v j).gc)) (i:=j / 2) (by omega);rw[Addr.add_lit,yz,T.cell hl];rcases(by omega:j % 2=0\/j % 2=1) with h|h
 ·have E:j=j / 2*2+0:=by omega
  rw[E] at D |-;rw[h1 0 (by omega)];rw[Nat.add_zero,I.1] at D;rw[<- D,<- M];rfl
 ·have E:j=j / 2*2+1:=by omega
  rw[E] at D |-;rw[h1 1 (by omega)];rw[I.2] at D;rw[<- D,<- O];rfl
theorem zzV{w:World}{B g:Nat}{q:List Ml}(hB:B<=g)(h:zaA zyY 53 2 q.length (RMl q) g q.length w):∃ G,St (fun b=>b<B\/w.heap.size<=b) (QuF (some ⟨g,0,none⟩) q G) w:=by
 obtain⟨v,lo,hi,F,E,O⟩:=h;have hg:=E.lt;refine⟨fun j=>((v j).ga,(v j).gc),fun w' I=>zzU (lo:=lo) (hi:=hi) (E.of_block (I.block g hg (by show ¬ (g<B\/w.heap.size<=g);omega))) (fun i D=>?_)⟩;obtain⟨h1,T,U,Z,_,J⟩:=O i D;exact⟨h1,J w' (I.mono (fun b M=>by have:b<B\/w.heap.size<=b:=M;show b<lo i\/hi i<=b;omega))⟩
def RQu(qs:List (List Ml))(i:Nat)(y:EQu)(lo hi:Nat)(V:World):Prop:=y.ql=(qu qs i).length/\y.qc=(qu qs i).length/\(∃ b,y.qa=some ⟨b,0,none⟩)/\∃ G,St (fun b=>b<lo\/hi<=b) (QuF y.qa (qu qs i) G) V
theorem znR(a:Option Addr)(c:Nat)(qs:List (List Ml))(w:World)(O:qs.length<=1000)(hK:∀ i,i<qs.length->(qu qs i).length<=1000/\∀ j,j<(qu qs i).length->(ml (qu qs i) j).g.length<=1000/\∀ m,m<(ml (qu qs i) j).g.length->(cl (ml (qu qs i) j).g m).ks.length<=1000)(h:zmj w a qs) :
  yL 76 #[.slice a qs.length c,.func (.func 77) #[] #[]] w fun e w' => e=.returned (.slice (some ⟨w.heap.size,0,none⟩) qs.length qs.length)/\Below w.heap.size w w' /\ zaA zxT 51 1 qs.length (RQu qs) w.heap.size qs.length w' := by
 obtain⟨f,D⟩:=zpC h;refine zzr 77 (yJ Tryz.func77 (by kernel_rfl) rfl) a c qs.length (fun i=>⟨(f i).1,(qu qs i).length,(f i).2⟩) (RQu qs) w (by omega) (fun i hi=>(D i hi).1) (fun i hi V F=>?_);refine(zqq (f i).1 (f i).2 (qu qs i) V (hK i hi).1 (hK i hi).2 ((D i hi).2.below F)).mono ?_;rintro e w' ⟨rfl,I,M⟩;exact⟨⟨some ⟨V.heap.size,0,none⟩,(qu qs i).length,(qu qs i).length⟩,rfl,I,fun T J=>⟨rfl,rfl,⟨_,rfl⟩,by obtain⟨G,E⟩:=zzV (yj _) M;exact⟨G,E.off J⟩⟩⟩
def RRl(rs:List Rl)(i:Nat)(y:ERl)(lo hi:Nat)(V:World):Prop:=∃ A:RA,y=⟨A.a0,(rl rs i).s.length,A.c0,A.a1,(rl rs i).hs.length,A.c1,A.a2,(rl rs i).i.length,A.c2,A.a3,(rl rs i).t.length,A.c3⟩/\A.c3=(rl rs i).t.length/\(∃ b,A.a3=some ⟨b,0,none⟩)/\zdd V A (rl rs i)
theorem CI.st{w V:World}{R:Rl}{h g:Nat}{A:RA}(I:CI w R h g A V):St (fun b=>b<w.heap.size) (fun V=>zdd V A R) V:=fun F D =>
 ⟨by rw[I.a0];exact I.own.st F (D.mono (fun b E=>.inl E)),by rw[I.a1];exact zff (I.row.of_block (D.block h I.row.lt (by have:=I.h0;omega))),I.cls F (D.mono (fun b E=>.inl E)),by rw[I.a3];exact zgX (I.tr.of_block (D.block _ I.tr.lt (by have:=I.t0;omega)))⟩
theorem znS(a:Option Addr)(c:Nat)(rs:List Rl)(w:World)(M:rs.length<=1000)(hK:∀ i,i<rs.length->zaE (rl rs i)=0)(h:zmk w a rs) :
  yL 72 #[.slice a rs.length c,.func (.func 73) #[] #[]] w fun e w' => e=.returned (.slice (some ⟨w.heap.size,0,none⟩) rs.length rs.length)/\Below w.heap.size w w' /\ zaA zza 50 4 rs.length (RRl rs) w.heap.size rs.length w' := by
 obtain⟨f,E⟩:=zpE h;refine zzs 73 (yJ Tryz.func73 (by kernel_rfl) rfl) a c rs.length (fun i=>⟨(f i).a0,(rl rs i).s.length,(f i).c0,(f i).a1,(rl rs i).hs.length,(f i).c1,(f i).a2,(rl rs i).i.length,(f i).c2,(f i).a3,(rl rs i).t.length,(f i).c3⟩) (RRl rs) w (by omega) (fun i hi=>(E i hi).1) (fun i hi V F=>?_);refine(zkB (f i) (rl rs i) V (hK i hi) ((E i hi).2.below F)).mono ?_;rintro e w' ⟨B,h,g,rfl,D⟩;exact⟨⟨B.a0,(rl rs i).s.length,B.c0,B.a1,(rl rs i).hs.length,B.c1,B.a2,(rl rs i).i.length,B.c2,B.a3,(rl rs i).t.length,B.c3⟩,rfl,D.bel,fun J I=>⟨B,rfl,D.c3,⟨_,D.a3⟩,D.st.top J I⟩⟩
end Go.Proofs.YtcbcpomacdngmaaGreat
