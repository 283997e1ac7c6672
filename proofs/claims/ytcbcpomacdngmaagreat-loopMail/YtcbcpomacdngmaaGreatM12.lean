/-
  x
-/
import Derived.Test.YtcbcpomacdngmaaGreatM11
namespace Go.Proofs.YtcbcpomacdngmaaGreat
set_option maxRecDepth 100000
set_option maxHeartbeats 4000000
set_option linter.unusedVariables false
open Go.RowKit
theorem znt(T M:Int)(near:Bool)(x:Nd)(k:Value)(w:World) :
  yL 212 #[.agg #[.int .i64 T,.int .i64 M,.bool near],.agg #[.bool x.u,.int .i64 x.n,.int .i64 x.t,.int .i64 x.m,.int .i64 x.p,k,.int .i64 x.h,.bool x.c]] w fun e w' => e=.returned (.bool (zwX T M x))/\Below w.heap.size w w' := by
 obtain⟨xu,xn,O,F,xp,Z,xh,xc⟩:=x;unfold zwX;dsimp only;by_cases h1:T = -1000001
 ·subst h1;simp only[decide_true,Bool.true_or,Bool.true_and];by_cases D:M = -1000001
  ·subst D;simp only[decide_true,Bool.true_or]
   go_enter Tryz.func212,Tryz.ntmps212
   go_wp2
   go_ret;exact⟨rfl,((yk _ _).alloc (yj _) _).alloc (by simp) _⟩
  ·have U:(M == -1000001)=false:=beq_eq_false_iff_ne.2 D;rw[yE D,Bool.false_or];by_cases E:M=F
   ·subst E;simp only[decide_true]
    go_enter Tryz.func212,Tryz.ntmps212
    go_wp2
    go_ret;exact⟨by simp,((yk _ _).alloc (yj _) _).alloc (by simp) _⟩
   ·have I:(M == F)=false:=beq_eq_false_iff_ne.2 E;rw[yE E]
    go_enter Tryz.func212,Tryz.ntmps212
    go_wp2
    go_ret;refine⟨?_,((yk _ _).alloc (yj _) _).alloc (by simp) _⟩
    first
     | rfl
     | simp[I]
 ·have e1:(T == -1000001)=false:=beq_eq_false_iff_ne.2 h1;rw[yE h1,Bool.false_or];by_cases J:T=O
  ·subst J;simp only[decide_true,Bool.true_and];by_cases D:M = -1000001
   ·subst D;simp only[decide_true,Bool.true_or]
    go_enter Tryz.func212,Tryz.ntmps212
    go_wp2
    go_ret;exact⟨rfl,((yk _ _).alloc (yj _) _).alloc (by simp) _⟩
   ·have U:(M == -1000001)=false:=beq_eq_false_iff_ne.2 D;rw[yE D,Bool.false_or];by_cases E:M=F
    ·subst E;simp only[decide_true]
     go_enter Tryz.func212,Tryz.ntmps212
     go_wp2
     go_ret;exact⟨by simp,((yk _ _).alloc (yj _) _).alloc (by simp) _⟩
    ·have I:(M == F)=false:=beq_eq_false_iff_ne.2 E;rw[yE E]
     go_enter Tryz.func212,Tryz.ntmps212
     go_wp2
     go_ret;refine⟨?_,((yk _ _).alloc (yj _) _).alloc (by simp) _⟩
     first
      | rfl
      | simp[I]
  ·have e2:(T == O)=false:=beq_eq_false_iff_ne.2 J;rw[yE J,Bool.false_and]
   go_enter Tryz.func212,Tryz.ntmps212
   go_wp2
   go_ret;exact⟨rfl,((yk _ _).alloc (yj _) _).alloc (by simp) _⟩
theorem zwR(a:Option Addr)(c:Nat)(S:List Nd)(T M:Int)(near:Bool)(F Z:Nat)(k:Nat)(w:World)(hk:k<S.length)(hS:zah w a S)(J:w.cell? ⟨F,0,none⟩=some (.int .i64 T))(O:w.cell? ⟨F,1,none⟩=some (.int .i64 M))(U:w.cell? ⟨F,2,none⟩=some (.bool near))(hs:w.cell? ⟨Z,0,none⟩=some (.slice a S.length c)) :
  yL 211 #[.int .i64 (k:Int),.pointer (some ⟨F,0,none⟩),.pointer (some ⟨Z,0,none⟩)] w fun e w' => e=.returned (.bool (!zwX T M (nd S k)))/\Below w.heap.size w w' := by
 have a5:(k:Int)<(S.length:Int):=by omega
 obtain⟨b,o,rfl,c0,c1,c2,c3,c4,⟨ka,kc,c5,_⟩,c6,c7⟩:=hS k hk;have d1:=fun v W=>znt T M near (nd S k) v W;clear hS;generalize zwX T M (nd S k)=r at *;generalize nd S k=x at *;generalize S.length=n at *
 go_enter Tryz.func211,Tryz.ntmps211
 go_wp2_with fail
 go_region_held3 (fun E=>E.cell? ⟨F,0,none⟩=some (.int .i64 T)/\E.cell? ⟨F,1,none⟩=some (.int .i64 M)/\E.cell? ⟨F,2,none⟩=some (.bool near)/\E.cell? ⟨Z,0,none⟩=some (.slice (some ⟨b,o,none⟩) n c)/\E.cell? ⟨b,o+k*8,none⟩=some (.bool x.u)/\E.cell? ⟨b,o+k*8+1,none⟩=some (.int .i64 x.n)/\E.cell? ⟨b,o+k*8+2,none⟩=some (.int .i64 x.t)/\E.cell? ⟨b,o+k*8+3,none⟩=some (.int .i64 x.m)/\E.cell? ⟨b,o+k*8+4,none⟩=some (.int .i64 x.p)/\E.cell? ⟨b,o+k*8+5,none⟩=some (.slice ka x.ks.length kc)/\E.cell? ⟨b,o+k*8+6,none⟩=some (.int .i64 x.h)/\E.cell? ⟨b,o+k*8+7,none⟩=some (.bool x.c)) (go_keep) (first|(go_at_call 212;refine(d1 _ _).mono ?_;rintro e w2 ⟨rfl,I⟩;have D:Below w.heap.size w w2:=((yk _ _).drew).trans I;have m0:=(D.cell (yd _ _ J)).trans J;have m1:=(D.cell (yd _ _ O)).trans O;have m2:=(D.cell (yd _ _ U)).trans U;have m3:=(D.cell (yd _ _ hs)).trans hs;have n0:=(D.cell (yd _ _ c0)).trans c0;have n1:=(D.cell (yd _ _ c1)).trans c1;have n2:=(D.cell (yd _ _ c2)).trans c2;have n3:=(D.cell (yd _ _ c3)).trans c3;have n4:=(D.cell (yd _ _ c4)).trans c4;have n5:=(D.cell (yd _ _ c5)).trans c5;have n6:=(D.cell (yd _ _ c6)).trans c6;have n7:=(D.cell (yd _ _ c7)).trans c7;clear I))
 all_goals go_wp2
 all_goals go_ret
 all_goals exact⟨rfl,D⟩
def zla(W:World)(D gs N:Nat)(st:(Nat->Bool) × List Int)(w1:World):Prop :=
 Off (fun k=>k=D\/k=gs) W w1/\w1.rowIs gs 4 N (fun j=>.bool (st.1 j))/\(st.2.Nodup/\∀ x ∈ st.2,∃ j:Nat,j<N/\x=j/\st.1 j=true) /\
 ∃ v,w1.heap[D]?=some (.cells #[v] 48 (0,0))/\w1.ownsRow W.heap.size 3 1 v st.2.length (st.2.map (Value.int .i64))
theorem zla.small{W w1:World}{D gs N:Nat}{st:(Nat->Bool) × List Int}(h:zla W D gs N st w1):st.2.length<=N:=by
 obtain⟨_,_,⟨h1,E⟩,_⟩:=h
 have:=h1.length_le_of_subset (l₂:=(List.range N).map (fun i:Nat=>(i:Int))) (fun x I=>by
  obtain⟨j,F,rfl,_⟩:=E x I;exact List.mem_map.2 ⟨j,List.mem_range.2 F,rfl⟩)
 simpa using this
theorem zla.below{W w1 M:World}{I gs N:Nat}{st:(Nat->Bool) × List Int}(h:zla W I gs N st w1)(D:Below w1.heap.size w1 M):zla W I gs N st M:=by
 obtain⟨T,J,O,v,hc,E⟩:=h;have F:=(Array.getElem?_eq_some_iff.1 hc).1
 exact⟨T.trans (Off.of_below D),J.of_block (D.block gs J.lt),O,v,(D.block _ F).trans hc,E.kept (row:=none) ⟨D.os,D.tape,D.output,D.size,fun k U _=>D.block k U⟩ (by
  cases hv:v.ownBlock with
  | none=>exact Or.inl rfl
  | some k=>exact Or.inr (fun e=>by cases e))⟩
theorem zla.step{W w1 O:World}{D gs N j:Nat}{st:(Nat->Bool) × List Int}(h:zla W D gs N st w1)(b0:D<W.heap.size)(b5:gs<W.heap.size)(b2:D≠gs)(hj:j<N)(hs:st.1 j=false){v v' : Value}(hc:w1.heap[D]?=some (.cells #[v] 48 (0,0)))(o1:Obj)
  (U:w1.ownsRow W.heap.size 3 1 v st.2.length (st.2.map (Value.int .i64)))
  (I:O.ownsRow W.heap.size 3 1 v' (st.2.length+1) (st.2.map (Value.int .i64)++[.int .i64 (j:Int)])) (hg:((w1.setCell ⟨gs,j,none⟩ (.bool true)).alloc o1).grownBy O v.ownBlock) :
  O.heap[D]?=some (.cells #[v] 48 (0,0))/\(∀ k:Nat,∀ x t,w1.heap[k]?=some (.cells #[x] t (0,0))->t≠48->t≠4->t≠3->(O.setCell ⟨D,0,none⟩ v').heap[k]?=w1.heap[k]?)/\zla W D gs N (fun i=>if i=j then true else st.1 i,st.2++[(j:Int)]) (O.setCell ⟨D,0,none⟩ v'):=by
 obtain⟨hO,hR,⟨a9,a5⟩,v0,b4,_⟩:=h;have Z:∀ k,v.ownBlock=some k->W.heap.size<=k:=fun k E=>(U.lt k E).1;have b8:=hO.size
 have T:∀ k,k<W.heap.size->k≠gs->O.heap[k]?=w1.heap[k]?:=fun k E b1 =>
  (hg.block k (by simp;omega) (fun e=>by have:=Z k e.symm;omega)).trans ((Below.heap_alloc _ _ _ (by simp;omega)).trans (ys _ _ _ _ (by exact b1)))
 have a7:O.heap[gs]?=(w1.setCell ⟨gs,j,none⟩ (.bool true)).heap[gs]? :=
  (hg.block gs (by simp;omega) (fun e=>by have:=Z gs e.symm;omega)).trans (Below.heap_alloc _ _ _ (by simp;omega))
 have a6:O.heap[D]?=some (.cells #[v] 48 (0,0)):=(T D b0 b2).trans hc;refine⟨a6,fun k x t E h1 h2 h3=>?_,?_,?_,⟨?_,?_⟩,v', ziN a6,?_⟩
 ·have b7:=(Array.getElem?_eq_some_iff.1 E).1;have n1:k≠D:=fun e=>by rw[e,hc] at E;cases E;exact h1 rfl
  have n2:k≠gs:=fun e=>by
   obtain⟨a8,F,_⟩:=hR;rw[e,F] at E;cases E;exact h2 rfl
  rw[ys _ _ _ _ (by exact n1),hg.block k (by simp;omega) (fun e=>by
   rcases U.2 with ⟨hv,_⟩ |⟨g,cap,a8,hv,_,F,_⟩
   ·rw[hv] at e;cases e
   ·rw[hv] at e;have:k=g:=(by simpa [Value.ownBlock] using e);rw[this,F] at E;cases E;exact h3 rfl),Below.heap_alloc _ _ _ (by simp;omega),ys _ _ _ _ (by exact n2)]
 ·refine⟨?_,?_,?_,?_,fun k E M=>?_⟩
  ·exact hg.os.trans hO.os
  ·exact hg.tape.trans hO.tape
  ·exact hg.output.trans hO.output
  ·have:=hg.size;simp at this |-;omega
  ·rw[ys _ _ _ _ (by show k≠D;exact fun e=>M (Or.inl e)),T k E (fun e=>M (Or.inr e))];exact hO.block k E M
 ·have h1:=((hR.set j (.bool true)).of_block a7).setOther (a:=⟨D,0,none⟩) (by simp;omega) v';refine h1.congr (fun i _=>?_);dsimp only;by_cases e:i=j
  ·rw[yb e,yb e]
  ·rw[ya e,ya e]
 ·rw[List.nodup_append];refine⟨a9,by simp,fun a ha b hb e=>?_⟩;have b3:b=(j:Int):=by simpa using hb
  obtain⟨i,hi,b6,J⟩:=a5 a ha;have:i=j:=by omega
  rw[this,hs] at J;cases J
 ·intro x M;rcases List.mem_append.1 M with M|M
  ·obtain⟨i,hi,rfl,J⟩:=a5 x M;refine⟨i,hi,rfl,?_⟩;dsimp only;by_cases e:i=j
   ·rw[yb e]
   ·rw[ya e];exact J
  ·exact⟨j,hj,by simpa using M,yb rfl⟩
 ·have h3:=I.kept (grownBy_setCell O ⟨D,0,none⟩ v') (by
   cases hb:v'.ownBlock with
   | none=>exact Or.inl rfl
   | some k=>right;intro e;have:=(I.lt k hb).1;simp at e;omega)
  simpa using h3
theorem zjX(W:World)(U F T gs N:Nat)(near:Bool)(st:(Nat->Bool) × List Int)(j:Nat)(w1:World)(hj:j<N)(hN:N<=1000)(h:zla W F gs N st w1)
  (b7:U<W.heap.size) (b5:F<W.heap.size) (b8:gs<W.heap.size) (b6:T<W.heap.size) (n1:U≠F) (n2:U≠gs) (n3:T≠F) (n4:T≠gs) (n5:F≠gs)
  (cs:W.cell? ⟨U,0,none⟩=some (.slice (some ⟨gs,0,none⟩) N N)) (cn:W.cell? ⟨T,0,none⟩=some (.bool near)) :
  yL 220 #[.int .i64 (j:Int),.pointer (some ⟨U,0,none⟩),.pointer (some ⟨F,0,none⟩),.pointer (some ⟨T,0,none⟩)] w1 fun e J=>e=.returned (.bool (zbn near st j).2)/\zla W F gs N (zbn near st j).1 J/\Off (fun k=>k=F\/k=gs\/W.heap.size<=k) w1 J/\∀ (k:Nat) x t,w1.heap[k]?=some (.cells #[x] t (0,0))->t≠48->t≠4->t≠3->J.heap[k]?=w1.heap[k]?:=by
 obtain⟨i0,b9,c6,c7,c8⟩:=info_parts info3;have e0:(j:Int)<(N:Int):=by omega
 have e2:=h.small;have HI:Hid (zla W F gs N st w1):=h;have O:Hid (∀ v,w1.heap[F]?=some (.cells #[v] 48 (0,0))->w1.ownsRow W.heap.size 3 1 v st.2.length (st.2.map (Value.int .i64))->∀ v' J o1,st.1 j=false->J.ownsRow W.heap.size 3 1 v' (st.2.length+1) (st.2.map (Value.int .i64)++[.int .i64 (j:Int)])->((w1.setCell ⟨gs,j,none⟩ (.bool true)).alloc o1).grownBy J v.ownBlock->_):=fun v hc D v' J o1 hs E hg=>zla.step h b5 b8 n5 hj hs hc o1 D E hg;obtain⟨hO,hR,_,v,hc,D⟩:=h;have e3:=hO.size;have x1:=(hO.cell (p:=⟨U,0,none⟩) b7 (by show ¬ (U=F\/U=gs);omega)).trans cs;have x2:=hR.cell hj;have f2:=hR.frozen j;have d9:=hR.lt;have a8:Hid (∀ a6 J,zla W F gs N a6 J->J.cell? ⟨T,0,none⟩=some (.bool near)):=fun a6 J h2=>(h2.1.cell (p:=⟨T,0,none⟩) b6 (by show ¬ (T=F\/T=gs);omega)).trans cn;have HC:Hid _:=hc;have HO:Hid _:=D;have cb:=zaI hc;have d8:=yd _ _ cb;have e1:=yd _ _ x1
 cases hs:st.1 j with
 | true =>
  rw[zdP hs];rw[hs] at x2;clear hO hR D hc O
  go_enter Tryz.func220,Tryz.ntmps220
  go_wp2
  go_ret;exact⟨rfl,HI.out,Off.refl _ _,fun _ _ _ _ _ _ _=>rfl⟩
 | false =>
  rw[zev hs];rw[hs] at x2;have b4:Hid _:=O.out v hc D;have HS:Hid _:=hs;have c9:(w1.setCell ⟨gs,j,none⟩ (.bool true)).cell? ⟨F,0,none⟩=some v:=(World.cell?_setCell_other _ _ _ _ (by intro e;exact n5 (by simpa using (congrArg Addr.block e).symm))).trans cb
  have a9:Hid ((w1.setCell ⟨gs,j,none⟩ (.bool true)).ownsRow W.heap.size 3 1 v st.2.length (st.2.map (Value.int .i64))):=D.kept (grownBy_setCell w1 ⟨gs,j,none⟩ (.bool true)) (by
   cases hv:v.ownBlock with
   | none=>exact Or.inl rfl
   | some k=>right;intro e;have:=(D.lt k hv).1;simp at e;omega)
  have b3:Hid (∀ v' J o1,((w1.setCell ⟨gs,j,none⟩ (.bool true)).alloc o1).grownBy J v.ownBlock->Off (fun k=>k=F\/k=gs\/W.heap.size<=k) w1 (J.setCell ⟨F,0,none⟩ v')):=fun v' J o1 hg=>⟨hg.os,hg.tape,hg.output,by have:=hg.size;simp at this |-;omega,fun k hk hx=>by
   rw[ys _ _ _ _ (by show k≠F;exact fun e=>hx (Or.inl e)),hg.block k (by simp;omega) (fun e=>by have:=(D.lt k e.symm).1;exact hx (Or.inr (Or.inr this))),Below.heap_alloc _ _ _ (by simp;omega),ys _ _ _ _ (by show k≠gs;exact fun e=>hx (Or.inr (Or.inl e)))]⟩
  clear hO hR D hc O hs cb HO;generalize ((fun i=>if i=j then true else st.1 i,st.2++[(j:Int)]):(Nat->Bool) × List Int)=a6 at *
  go_enter Tryz.func220,Tryz.ntmps220
  go_wp2_with (at_builtin;refine wpList_append_own _ rfl _ _ 48 rfl W.heap.size 3 i0 (.int .i64 0) 1 8 Tryz.underlying48 b9 c6 c7 c8 rfl (by decide) _ _ _ rfl (a9.out.alloc _) ⟨w1.heap.size,0,none⟩ 1 1 [.int .i64 (j:Int)] rfl rfl ?c1 ?c2 ?c3 ?c4 ?c5 ?_)
  case c2=>rfl
  case c3=>unfold maxLen;omega
  case c4=>omega
  case c5=>omega
  intro v' J E M _
  obtain⟨g', I,rfl⟩:∃ g' I,v' = .slice (some ⟨g', 0,none⟩) (st.2.length+1) I:=by
   rcases E.2 with ⟨_,h⟩ |⟨g', I,d6,h,_⟩
   ·omega
   ·exact⟨g', I,h⟩
  obtain⟨a5,b0,Z⟩:=b4.out _ _ _ HS.out E M;have a7:Hid _:=b3.out (.slice (some ⟨g', 0,none⟩) (st.2.length+1) I) _ _ M;have b1:Hid _:=Z;have b2:Hid _:=b0;have d4:=zaI a5;have d7:=fun o=>zaY (o:=o) a5;have d5:=a8.out _ _ Z;clear E M Z b0 a5
  go_wp2
  go_ret;exact⟨rfl,b1.out,a7.out,b2.out⟩
structure Slt where
 pl:Int
 num:Int
 gv:List Int
def ztL(S:List Nd)(x:Int):Int:=(nd S x.toNat).t-90
def zdg(S:List Nd)(H:Nat)(out:List Slt)(x:Int):List Slt :=
 if ztL S x<0 then out else out++[⟨x,ztL S x,if out.any (fun s=>decide (s.num=ztL S x)) then [] else zbX S H (ztL S x)⟩]
def zbu(S:List Nd)(H:Nat)(l:List Int):List Slt:=l.foldl (zdg S H) []
def zbO(S:List Nd)(H:Nat):List Slt:=if zbY S H = -1 then [] else zbu S H (zbi S S.length (zbY S H).toNat)
theorem zdl{S:List Nd}{H:Nat}{mk x:Int}:x ∈ zbX S H mk↔x ∈ (nd S H).ks/\(nd S x.toNat).m=mk:=by
 unfold zbX;rw[zlG];unfold zcg;simp
theorem zeL(S:List Nd)(H:Nat)(l:List Int)(x:Int):zbu S H (l++[x])=zdg S H (zbu S H l) x:=by
 unfold zbu;rw[List.foldl_append];rfl
theorem zeF{α:Type}{P:List α->Prop}(h0:P [])(h1:∀ l x,P l->P (l++[x]))(l:List α):P l:=by
 have:∀ n,∀ l:List α,l.length=n->P l:=by
  intro n
  induction n with
  | zero=>intro l hl;cases l with|nil=>exact h0|cons=>cases hl
  | succ n E =>
   intro l hl;have D:l≠[]:=(by intro e;subst e;cases hl);rw[<- List.dropLast_concat_getLast D];exact h1 _ _ (E _ (by rw[List.length_dropLast];omega))
 exact this _ l rfl
theorem zjF{S:List Nd}{H:Nat}(l:List Int):∀ s ∈ zbu S H l,s.pl ∈ l/\s.num=ztL S s.pl/\0<=s.num/\(s.gv=[]\/s.gv=zbX S H s.num):=by
 induction l using zeF with
 | h0=>intro s hs;cases hs
 | h1 l x E =>
  intro s hs;rw[zeL] at hs;unfold zdg at hs
  split at hs
  ·obtain⟨h1,D⟩:=E s hs;exact⟨List.mem_append_left _ h1,D⟩
  ·rename_i hn;rcases List.mem_append.1 hs with hs|hs
   ·obtain⟨h1,D⟩:=E s hs;exact⟨List.mem_append_left _ h1,D⟩
   ·have e:=List.mem_singleton.1 hs;subst e;refine⟨by simp,rfl,by dsimp only;omega,?_⟩;dsimp only;split
    ·exact Or.inl rfl
    ·exact Or.inr rfl
theorem znp(S:List Nd)(H:Nat)(l:List Int):(zbu S H l).map Slt.pl=l.filter (fun x=>decide (0<=ztL S x)):=by
 induction l using zeF with
 | h0=>rfl
 | h1 l x D =>
  rw[zeL,List.filter_append,<- D];unfold zdg;split
  ·rename_i h;have:¬ 0<=ztL S x:=(by omega);simp[this]
  ·rename_i h;have:0<=ztL S x:=(by omega);simp[this]
theorem zno(S:List Nd)(H:Nat)(l:List Int):(zbu S H l).length<=l.length:=by
 have h:=congrArg List.length (znp S H l);rw[List.length_map] at h;rw[h];exact List.length_filter_le _ _
theorem zrz(S:List Nd)(H:Nat)(l:List Int):(zbu S H l).Pairwise (fun s F=>F.gv=[]\/s.num≠F.num):=by
 induction l using zeF with
 | h0=>exact List.Pairwise.nil
 | h1 l x I =>
  rw[zeL];unfold zdg;split
  ·exact I
  ·rw[List.pairwise_append];refine⟨I,List.pairwise_singleton _ _,fun s hs F E=>?_⟩;have e:=List.mem_singleton.1 E;subst e;dsimp only;split
   ·exact Or.inl rfl
   ·rename_i D;right;intro e;exact D (List.any_eq_true.2 ⟨s,hs,yF e⟩)
theorem zuy{S:List Nd}{H:Nat}{l:List Int}{s I:Slt}(hs:s ∈ zbu S H l)(F:I ∈ zbu S H l){c:Int}(hc:c ∈ s.gv)(D:c ∈ I.gv):s=I:=by
 obtain⟨_,_,_,h1⟩:=zjF l s hs;obtain⟨_,_,_,h2⟩:=zjF l I F;have U:s.gv≠[]:=fun e=>by rw[e] at hc;cases hc
 have Z:I.gv≠[]:=fun e=>by rw[e] at D;cases D
 have e1:=h1.resolve_left U;have e2:=h2.resolve_left Z;rw[e1] at hc;rw[e2] at D;have O:=(zdl.1 hc).2;have T:=(zdl.1 D).2;have J:=zrz S H l;obtain⟨i,hi,rfl⟩:=List.getElem_of_mem hs;obtain⟨j,M,rfl⟩:=List.getElem_of_mem F;rw[List.pairwise_iff_getElem] at J;rcases Nat.lt_trichotomy i j with E|e|E
 ·rcases J i j hi M E with h|h
  ·exact absurd h Z
  ·exact absurd (O.symm.trans T) h
 ·subst e;rfl
 ·rcases J j i M hi E with h|h
  ·exact absurd h U
  ·exact absurd (T.symm.trans O) h
def zhl(S:List Nd):Nat->Nat->List Int
 | 0,_=>[]
 | h+1,p=>match (zbO S h).find? (fun s=>decide (s.pl=(p:Int))) with
  | some s=>s.gv
  | none=>zhl S h p
def zvF(S:List Nd)(h:Nat)(L:List Slt)(p:Nat):List Int:=match L.find? (fun s=>decide (s.pl=(p:Int))) with
  | some s=>s.gv
  | none=>zhl S h p
theorem ziD{S:List Nd}:∀ {h p:Nat} {c:Int},c ∈ zhl S h p->∃ H s,H<h/\s ∈ zbO S H/\s.pl=(p:Int)/\c ∈ s.gv
 | 0,_,_,hc=>by cases hc
 | h+1,p,c,hc=>by
  unfold zhl at hc
  split at hc
  ·rename_i s hs;exact⟨h,s,by omega,List.mem_of_find?_eq_some hs,by have:=List.find?_some hs;simpa using this,hc⟩
  ·obtain⟨H,s,h1,D⟩:=ziD hc;exact⟨H,s,by omega,D⟩
theorem zhz{S:List Nd}:∀ {h p:Nat},zhl S h p=[]\/∃ H s,H<h/\s ∈ zbO S H/\zhl S h p=s.gv
 | 0,_=>Or.inl rfl
 | h+1,p=>by
  unfold zhl;split
  ·rename_i s hs;exact Or.inr ⟨h,s,by omega,List.mem_of_find?_eq_some hs,rfl⟩
  ·rcases zhz (S:=S) (h:=h) (p:=p) with e |⟨H,s,h1,D⟩
   ·exact Or.inl e
   ·exact Or.inr ⟨H,s,by omega,D⟩
theorem zdp{S:List Nd}(h:WF S){H:Nat}{s:Slt}(hs:s ∈ zbO S H):∃ r k j:Nat,r<S.length/\(nd S r).h=H/\zbY S H=r/\s.pl=k/\k<S.length/\Up S j k r/\s.num=ztL S s.pl/\0<=s.num/\(s.gv=[]\/s.gv=zbX S H s.num)/\s ∈ zbu S H (zbi S S.length r):=by
 unfold zbO at hs
 split at hs
 ·cases hs
 ·rename_i I;obtain⟨r,h1,D,E,_⟩:=zck S H I;rw[D,yi] at hs;obtain⟨M,O,T,U⟩:=zjF _ s hs;obtain⟨q,e,F,_,j,_,J⟩:=zcQ h h1 (h.deep_all h1) _ M;exact⟨r,q,j,h1,E,D,e,F,J,O,T,U,hs⟩
theorem zxn{S:List Nd}(h:WF S):zhm S (zhl S S.length) where
 some:=fun p hp c hc=>by
  obtain⟨H,s,h1,F,h3,D⟩:=ziD hc;obtain⟨r,k,j,r1,r2,_,r3,r4,r5,_,_,I,_⟩:=zdp h F;have:k=p:=by omega
  subst this;have e:=I.resolve_left (fun e=>by rw[e] at D;cases D);rw[e] at D;exact⟨H,r,j,h1,r1,r2,r5,(zdl.1 D).1⟩
 one:=fun p p' c hp a7 hc T=>by
  obtain⟨H,s,h1,F,h3,D⟩:=ziD hc;obtain⟨H', s', M,O,a6,E⟩:=ziD T;obtain⟨r,_,_,r1,r2,rr,_,_,_,_,_,I,r7⟩:=zdp h F;obtain⟨r', _,_,a8,a9,b0,_,_,_,_,_,U,Z⟩:=zdp h O;have e:=I.resolve_left (fun e=>by rw[e] at D;cases D);have e' := U.resolve_left (fun e=>by rw[e] at E;cases E);have k1:=D;have k2:=E;rw[e] at k1;rw[e'] at k2;obtain⟨k,ek,_,_,p1,_⟩:=h.kid h1 (zdl.1 k1).1;obtain⟨k', a5,_,_,p2,_⟩:=h.kid M (zdl.1 k2).1;have:k=k' := by omega
  subst this;have:H=H' := by omega
  subst this;have:r=r' := by omega
  subst this;have:=zuy r7 Z D E;subst this;omega
 nodup:=fun p hp=>by
  rcases zhz (S:=S) (h:=S.length) (p:=p) with e |⟨H,s,h1,F,e⟩
  ·rw[e];exact List.nodup_nil
  ·rw[e];obtain⟨_,_,_,_,_,_,_,_,_,_,_,I,_⟩:=zdp h F;rcases I with J|J
   ·rw[J];exact List.nodup_nil
   ·rw[J];unfold zbX flt;exact(h.kids_nodup h1).filter _
theorem zjj{S:List Nd}(h:WF S){H:Nat}:((zbO S H).map Slt.pl).Nodup:=by
 unfold zbO;split
 ·exact List.nodup_nil
 ·rename_i E;obtain⟨r,h1,D,_⟩:=zck S H E;rw[D,yi,znp];exact(zeJ h h1 (yj _) (h.deep_all h1)).filter _
theorem zsP{S:List Nd}{h:Nat}{L:List Slt}(hn:(L.map Slt.pl).Nodup){i:Nat}(hi:i<L.length)(p:Nat):zvF S h (L.take (i+1)) p=if L[i].pl=(p:Int) then L[i].gv else zvF S h (L.take i) p:=by
 unfold zvF;rw[List.take_succ_eq_append_getElem hi,List.find?_append];by_cases e:L[i].pl=(p:Int)
 ·rw[yb e]
  have D:(L.take i).find? (fun s=>decide (s.pl=(p:Int)))=none:=by
   rw[List.find?_eq_none];intro s hs hd;have E:=of_decide_eq_true hd;obtain⟨j,F,rfl⟩:=List.getElem_of_mem hs;rw[List.length_take] at F;rw[List.getElem_take] at E;have:=(List.nodup_iff_pairwise_ne.1 hn);rw[List.pairwise_iff_getElem] at this;have:=this j i (by rw[List.length_map];omega) (by rw[List.length_map];omega) (by omega);rw[List.getElem_map,List.getElem_map] at this;exact this (E.trans e.symm)
  rw[D];simp[e]
 ·rw[ya e]
  cases (L.take i).find? (fun s=>decide (s.pl=(p:Int))) <;> simp[e]
theorem zsQ{S:List Nd}(h:WF S){D p:Nat}(hh:D<=S.length):(zhl S D p).length<=24/\∀ c ∈ zhl S D p,∃ k:Nat,c=k/\k<S.length:=by
 have hs:=h.small;rcases zhz (S:=S) (h:=D) (p:=p) with e |⟨H,s,h1,M,e⟩
 ·rw[e];exact⟨by simp,fun c hc=>by cases hc⟩
 ·rw[e];obtain⟨_,_,_,_,_,_,_,_,_,_,_,T,_⟩:=zdp h M;rcases T with E|E
  ·rw[E];exact⟨by simp,fun c hc=>by cases hc⟩
  ·rw[E]
   have J:∀ c ∈ zbX S H s.num,∃ k:Nat,c=k/\k<S.length:=fun c hc=>by
    obtain⟨k,e,F,_⟩:=h.kid (by omega) (zdl.1 hc).1;exact⟨k,e,F⟩
   refine⟨?_,J⟩;have I:(zbX S H s.num).Nodup:=by unfold zbX flt;exact(h.kids_nodup (by omega)).filter _
   have:=I.length_le_of_subset (l₂:=(List.range S.length).map (fun i:Nat=>(i:Int))) (fun x O=>by
    obtain⟨k,rfl,F⟩:=J x O;exact List.mem_map.2 ⟨k,List.mem_range.2 F,rfl⟩)
   simp at this;omega
def slt(L:List Slt)(i:Nat):Slt:=L.getD i ⟨0,0,[]⟩
def zfS(w:World)(a:Option Addr)(L:List Slt):Prop :=
 ∀ i,i<L.length->∃ b o,a=some ⟨b,o,none⟩/\w.cell? ⟨b,o+i*3,none⟩=some (.int .i64 (slt L i).pl)/\w.cell? ⟨b,o+i*3+1,none⟩=some (.int .i64 (slt L i).num)/\∃ ga gc,w.cell? ⟨b,o+i*3+2,none⟩=some (.slice ga (slt L i).gv.length gc)/\zal w ga (slt L i).gv
theorem zfS.below{w w' : World}{a:Option Addr}{L:List Slt}(h:zfS w a L)(E:Below w.heap.size w w'):zfS w' a L:=fun i hi=>by
 obtain⟨b,o,e,h1,F,ga,gc,I,J⟩:=h i hi;have D:b<w.heap.size:=yd _ _ h1;exact⟨b,o,e,(E.cell (by exact D)).trans h1,(E.cell (by exact D)).trans F,ga,gc,(E.cell (by exact D)).trans I,J.below E⟩
theorem zeM{L:List Slt}{i:Nat}(h:i<L.length):slt L i=L[i]:=zae L _ h
def zrR(K:Nat)(D:Array Value)(p:Slt->Bool)(w:World):Prop :=
 ∀ (x:Slt) (k:Value) (w1:World),Below w.heap.size w w1->yL K (#[.agg #[.int .i64 x.pl,.int .i64 x.num,k]] ++ D) w1 fun e E=>e=.returned (.bool (p x))/\Below w1.heap.size w1 E
theorem zoi(K:Nat)(E:Array Value)(p:Slt->Bool)(a:Option Addr)(c:Nat)(L:List Slt)(w:World)(U:L.length<=9223372036854775807)(T:zfS w a L)
  (eg:∀ args w,(callFunc K args).run Tryz.prog w=.ok (.enter K args) w) (Z:zrR K E p w) :
  yL 226 #[.slice a L.length c,.func (.func K) #[] E] w fun e w' => ∃ r:Int,e=.returned (.int .i64 r)/\Below w.heap.size w w' /\
   ((r = -1/\∀ i,i<L.length->p (slt L i)=false)\/(∃ k:Nat,k<L.length/\r=k/\p (slt L k)=true/\∀ i,i<k->p (slt L i)=false)):=by
 have HS:Hid (zfS w a L):=T;have HF:Hid (zrR K E p w):=Z;clear T Z;generalize hn:L.length=n at *;have HN:Hid _:=hn;clear hn
 go_enter Tryz.func226,Tryz.ntmps226
 go_wp2
 go_loopg [8] n (fun g s8 wr=>∃ k:Nat,k<=n/\n-k<=g/\s8=.int .i64 k/\Below w.heap.size w wr/\Hid (∀ i,i<k->p (slt L i)=false))
 case atStart=>exact⟨0,by omega,by omega,rfl,yk _ _,fun i hi=>by omega⟩
 case round =>
  obtain⟨k,hk,hg,rfl,F,A⟩:=hrel;by_cases J:k<n
  ·have a5:(k:Int)<(n:Int):=(by omega);obtain⟨b,o,rfl,c0,c1,ka,kc,c2,_⟩:=(HS.out.below F) k (by rw[HN.out];exact J);have D:=fun v=>HF.out (slt L k) v wr F
   cases hq:p (slt L k) with
   | true =>
    have M:Hid (p (slt L k)=true):=hq;rw[hq] at D;clear hq;generalize O:slt L k=x at D c0 c1 c2;clear O
    go_wp2_with (go_at_fn K;refine(D _).mono ?_;rintro e w' ⟨rfl,I⟩)
    go_ret;exact⟨k,rfl,F.trans (I.mono F.size),Or.inr ⟨k,J,rfl,M.out,A.out⟩⟩
   | false =>
    have M:Hid (p (slt L k)=false):=hq;rw[hq] at D;clear hq;generalize O:slt L k=x at D c0 c1 c2;clear O
    go_wp2_with (go_at_fn K;refine(D _).mono ?_;rintro e w' ⟨rfl,I⟩)
    go_roundg (n-(k+1))
    case measure=>omega
    case rel =>
     refine⟨k+1,by omega,by omega,by go_num,F.trans (I.mono F.size),(show Hid _ from fun i hi=>?_)⟩;by_cases e:i=k
     ·subst e;exact M.out
     ·exact A.out i (by omega)
  ·have:k=n:=(by omega);subst this
   go_wp2
   go_ret;exact⟨-1,rfl,F,Or.inl ⟨rfl,A.out⟩⟩
theorem zka(K:Nat)(F:Array Value)(p:Slt->Bool)(a:Option Addr)(c:Nat)(L:List Slt)(w:World)(J:L.length<=9223372036854775807)(T:zfS w a L)
  (Z:∀ args w,(callFunc K args).run Tryz.prog w=.ok (.enter K args) w) (U:zrR K F p w) :
  yL 221 #[.slice a L.length c,.func (.func K) #[] F] w fun e w' => e=.returned (.bool (L.any p))/\Below w.heap.size w w' := by
 have h:=zoi K F p a c L w J T Z U;have E:∀ k,k<L.length->p (slt L k)=true->L.any p=true:=fun k M O=>List.any_eq_true.2 ⟨slt L k,by rw[zeM M];exact List.getElem_mem M,O⟩
 have D:(∀ i,i<L.length->p (slt L i)=false)->L.any p=false:=fun H=>by
  rw[List.any_eq_false];intro x hx;obtain⟨i,hi,rfl⟩:=List.getElem_of_mem hx;have:=H i hi;rw[zeM hi] at this;simp[this]
 have H:Hid _:=E;have N:Hid _:=D;clear E D T U
 go_enter Tryz.func221,Tryz.ntmps221
 go_wp2_with (go_at_call 226;refine h.mono ?_;rintro e w' ⟨r,rfl,hb,hr⟩)
 go_ret;refine⟨?_,hb⟩;rcases hr with ⟨rfl,I⟩ |⟨k,M,rfl,O,_⟩
 ·rw[N.out I];rfl
 ·rw[H.out k M O];simp
theorem znn(x:Slt)(k:Value)(q:Nat)(y:Int)(w:World)(D:w.cell? ⟨q,0,none⟩=some (.int .i64 y)) :
  yL 222 #[.agg #[.int .i64 x.pl,.int .i64 x.num,k],.pointer (some ⟨q,0,none⟩)] w fun e w' => e=.returned (.bool (decide (x.num=y)))/\Below w.heap.size w w' := by
 obtain⟨pl,num,gv⟩:=x;dsimp only;have E:=yd _ _ D;by_cases e:num=y
 ·subst e;rw[yF rfl]
  go_enter Tryz.func222,Tryz.ntmps222
  go_wp2
  go_ret;exact⟨rfl,(yk _ _).alloc (yj _) _⟩
 ·rw[yE e];have F:(num == y)=false:=by simpa using e
  go_enter Tryz.func222,Tryz.ntmps222
  go_wp2
  go_ret;exact⟨rfl,(yk _ _).alloc (yj _) _⟩
theorem zqC(a:Option Addr)(c:Nat)(L:List Slt)(q:Nat)(y:Int)(w:World)(D:L.length<=9223372036854775807)(F:zfS w a L)(E:w.cell? ⟨q,0,none⟩=some (.int .i64 y)) :
  yL 221 #[.slice a L.length c,.func (.func 222) #[] #[.pointer (some ⟨q,0,none⟩)]] w fun e w' => e=.returned (.bool (L.any fun s=>decide (s.num=y)))/\Below w.heap.size w w' :=
 zka 222 _ (fun s=>decide (s.num=y)) a c L w D F (yJ Tryz.func222 (by kernel_rfl) rfl) (fun x k w1 h1=>znn x k q y w1 ((h1.cell (by exact yd _ _ E)).trans E))
def zyP(w:World)(b o:Nat)(x:Cl):Prop :=
 w.cell? ⟨b,o,none⟩=some (.int .i64 x.n)/\∃ ka kc,w.cell? ⟨b,o+1,none⟩=some (.slice ka x.ks.length kc)/\zal w ka x.ks
theorem zyP.below{w w' : World}{b o:Nat}{x:Cl}(h:zyP w b o x)(D:Below w.heap.size w w'):zyP w' b o x:=by
 obtain⟨c0,ka,kc,c1,E⟩:=h;exact⟨zab c0 D,ka,kc,zab c1 D,E.below D⟩
def zaF(w:World)(a:Option Addr)(G:List Cl):Prop :=
 ∀ i,i<G.length->∃ b o,a=some ⟨b,o,none⟩/\zyP w b (o+i*2) (cl G i)
theorem zaF.below{w w' : World}{a:Option Addr}{G:List Cl}(h:zaF w a G)(D:Below w.heap.size w w'):zaF w' a G:=fun i hi=>by
 obtain⟨b,o,e,hn⟩:=h i hi;exact⟨b,o,e,hn.below D⟩
def zlb(G:List Cl):Prop:=∀ i,i<G.length->(cl G i).ks.length<=9223372036854775807
def zaz(G:List Cl):Int:=if 24<G.length then 1 else cellsE G.length G
theorem zqX(x:Int)(m b:Nat)(w:World)(E:m<=24)(hc:w.cell? ⟨b,0,none⟩=some (.int .i64 (m:Int))) :
  yL 131 #[.int .i64 x,.pointer (some ⟨b,0,none⟩)] w fun e w' => e=.returned (.bool (!decide (0<=x/\x<=(m:Int)-1)))/\w' = w:=by
 have D:=zaR x 0 ((m:Int)-1);generalize decide (0<=x/\x<=(m:Int)-1)=r at D
 go_enter Tryz.func131,Tryz.ntmps131
 go_wp2_with (go_at_call 66;refine(D _).mono ?_;rintro e w' ⟨rfl,rfl⟩)
 go_ret;exact⟨rfl,rfl⟩
theorem zll(x:Cl)(ka:Option Addr)(kc m:Nat)(w:World)(hm:m<=24)(E:x.ks.length<=9223372036854775807)(D:zal w ka x.ks) :
  yL 97 #[.agg #[.int .i64 x.n,.slice ka x.ks.length kc],.int .i64 (m:Int)] w fun e w' => e=.returned (.int .i64 (zeX m x))/\Below w.heap.size w w' := by
 unfold zeX;by_cases h1:x.n < -1000000\/1000000<x.n
 ·rw[yb h1];have I:=fun W=>zhi x.n (-1000000) 1000000 W h1;clear D h1;generalize x.ks.length=l at *;generalize x.n=Z at *
  go_enter Tryz.func97,Tryz.ntmps97
  go_wp2_with (go_at_call 66;refine(I _).mono ?_;rintro e w' ⟨rfl,rfl⟩)
  go_ret;exact⟨rfl,zam _ _ _⟩
 ·rw[ya h1];have I:=fun W=>zet x.n (-1000000) 1000000 W (by omega) (by omega);by_cases J:8<x.ks.length
  ·rw[yb J];clear D h1;generalize x.ks.length=l at *;generalize x.n=Z at *;have h3:(8:Int)<(l:Int):=by omega
   go_enter Tryz.func97,Tryz.ntmps97
   go_wp2_with (go_at_call 66;refine(I _).mono ?_;rintro e w' ⟨rfl,rfl⟩)
   go_ret;exact⟨rfl,zam _ _ _⟩
  ·rw[ya J]
   have T:∀ w1:World,w1.cell? ⟨w.heap.size+1,0,none⟩=some (.int .i64 (m:Int))->zrO 131 #[.pointer (some ⟨w.heap.size+1,0,none⟩)] (fun k=>!decide (0<=k/\k<=(m:Int)-1)) w1:=fun w1 h1 y w2 M =>
    (zqX y m (w.heap.size+1) w2 hm (zab h1 M)).mono (fun e w3 h=>⟨h.1,by rw[h.2];exact yk _ _⟩)
   have d3:=fun(W:World) (hk:zal W ka x.ks) (hc:W.cell? ⟨w.heap.size+1,0,none⟩=some (.int .i64 (m:Int)))=>zeU 131 #[.pointer (some ⟨w.heap.size+1,0,none⟩)] (fun k=>!decide (0<=k/\k<=(m:Int)-1)) ka kc x.ks W E hk (yJ Tryz.func131 (by kernel_rfl) rfl) (T W hc);have K2:Hid (∀ F U,zal ((w.alloc F).alloc U) ka x.ks):=fun F U=>D.below (zam _ _ _);have O:Hid _:=d3;have C2:Hid (∀ F,((w.alloc F).alloc (.cells #[.int .i64 (m:Int)] 3)).cell? ⟨w.heap.size+1,0,none⟩=some (.int .i64 (m:Int))):=fun F=>zaN w _ _ 0 _ rfl;clear D T d3 h1;generalize (x.ks.any fun k=>!decide (0<=k/\k<=(m:Int)-1))=b3 at *;obtain⟨l,hl⟩:∃ l,x.ks.length=l:=⟨_,rfl⟩;rw[hl] at O J E |-;clear hl;generalize x.n=Z at *;have h3:¬ (8:Int)<(l:Int):=(by omega);cases b3
   all_goals
    go_enter Tryz.func97,Tryz.ntmps97
    go_wp2_with (first|(go_at_call 66;refine(I _).mono ?_;rintro e w' ⟨rfl,rfl⟩)|(go_at_call 132;refine(O.out _ (K2.out _ _) (C2.out _)).mono ?_;rintro e w' ⟨rfl,hb⟩))
    go_ret;exact⟨rfl,(zam _ _ _).trans (hb.mono (by simp;omega))⟩
theorem zxZ{G:List Cl}{k:Nat}(h:k<G.length):G.drop k=cl G k :: G.drop (k+1):=by
 rw[zco h];exact List.drop_eq_getElem_cons h
theorem zfH(a:Option Addr)(c:Nat)(G:List Cl)(w:World)(hN:G.length<=9223372036854775807)(hB:zlb G)(hS:zaF w a G) :
  yL 64 #[.agg #[.slice a G.length c]] w fun e w' => e=.returned (.int .i64 (zaz G))/\Below w.heap.size w w' := by
 unfold zaz;by_cases F:24<G.length
 ·rw[yb F];generalize G.length=n at *;clear hS hB;have M:(24:Int)<(n:Int):=by omega
  go_enter Tryz.func64,Tryz.ntmps64
  go_wp2
  go_ret;exact⟨rfl,zaa _ _⟩
 ·rw[ya F];have HS:Hid (zaF w a G):=hS;have Z:Hid (∀ i,i<G.length->∀ ka kc W,zal W ka (cl G i).ks->Calls _ _ _ _ _):=fun i hi ka kc W hW=>zll (cl G i) ka kc G.length W (by omega) (hB i hi) hW;have DR:Hid (∀ k,k<G.length->G.drop k=cl G k :: G.drop (k+1)):=fun k hk=>zxZ hk;have DN:Hid (G.drop G.length=[]):=List.drop_length;have E0:Hid (cellsE G.length G=cellsE G.length (G.drop 0)):=rfl;clear hS hB;obtain⟨E,hR⟩:∃ r,cellsE G.length G=r:=⟨_,rfl⟩;rw[hR] at E0 |-;clear hR;obtain⟨n,hn⟩:∃ n,G.length=n:=⟨_,rfl⟩;have HN:Hid (G.length=n):=hn;rw[hn] at hN F Z DR DN E0 |-;clear hn;have M:¬ (24:Int)<(n:Int):=by omega
  go_enter Tryz.func64,Tryz.ntmps64
  go_wp2_with fail
  go_loopg [13] n (fun g s13 wr=>∃ k:Nat,k<=n/\n-k<=g/\s13=.int .i64 k/\Hid (Below w.heap.size w wr)/\wr.cell? ⟨w.heap.size,0,none⟩=some (.slice a n c)/\Hid (E=cellsE n (G.drop k)))
  case atStart=>exact⟨0,by omega,by omega,rfl,zaa _ _,by go_simp,E0⟩
  case round =>
   obtain⟨k,hk,hg,rfl,HB,lb,A⟩:=hrel;have b0:=yd _ _ lb;by_cases O:k<n
   ·have a9:(k:Int)<(n:Int):=(by omega);obtain⟨b,o,rfl,c0,ka,kc,c1,a6⟩:=(HS.out.below HB.out) k (by rw[HN.out];exact O);have I:Hid _:=fun W hW=>Z.out k O ka kc W hW;have KS:Hid (∀ o1,zal (wr.alloc o1) ka (cl G k).ks):=fun o1=>a6.below (zaa _ _)
    have T:Hid (E=if zeX n (cl G k)=0 then cellsE n (G.drop (k+1)) else zeX n (cl G k)):=by
     show _=_;rw[A.out,DR.out k O];rfl
    clear a6 A;generalize cl G k=x at *;obtain⟨xn,a7⟩:=x;dsimp only at c0 c1;obtain⟨ev,a5⟩:∃ z,zeX n ⟨xn,a7⟩=z:=⟨_,rfl⟩;rw[a5] at I T;obtain⟨l,hl⟩:∃ z,a7.length=z:=⟨_,rfl⟩;dsimp only at I;rw[hl] at I c1;clear a5 hl
    go_wp2_with fail
    refine ye (I.out _ (KS.out _)) ?_;rintro e w1 ⟨rfl,hb⟩;have J:Below wr.heap.size wr w1:=(zaa _ _).trans (hb.mono (by simp));have U:Hid (Below w.heap.size w w1):=HB.out.trans (J.mono HB.out.size);have a8:=zab lb J;clear hb J lb;by_cases hz:ev=0
    ·subst hz;have D:Hid (E=cellsE n (G.drop (k+1))):=(by show _=_;rw[T.out,yb rfl]);clear T
     go_wp2_with fail
     go_roundg (n-(k+1))
     case measure=>omega
     case rel=>exact⟨k+1,by omega,by omega,by go_num,U,a8,D⟩
    ·have b1:(ev == 0)=false:=(by simp[hz]);have b2:decide (ev=0)=false:=yE hz;have D:Hid (E=ev):=(by show _=_;rw[T.out,ya hz]);clear T
     go_wp2_with fail
     go_ret;exact⟨by rw[D.out];rfl,U.out⟩
   ·have:k=n:=(by omega);subst this;have D:Hid (E=0):=(by show _=_;rw[A.out,DN.out];rfl);clear A
    go_wp2_with fail
    go_ret;exact⟨by rw[D.out];rfl,HB.out⟩
theorem zsq(x y:Cl):x=y↔(x.n=y.n/\x.ks=y.ks):=by
 constructor
 ·rintro rfl;exact⟨rfl,rfl⟩
 ·obtain⟨a,b⟩:=x;obtain⟨c,d⟩:=y;rintro⟨rfl,rfl⟩;rfl
def zrP(K:Nat):Prop:=∀ (x y:Cl) (ka D:Option Addr) (kc E:Nat) (W:World),x.ks.length<=9223372036854775807->zal W ka x.ks->zal W D y.ks ->
 yL K #[.agg #[.int .i64 x.n,.slice ka x.ks.length kc],.agg #[.int .i64 y.n,.slice D y.ks.length E]] W fun e w' => ∃ r:Bool,e=.returned (.bool r)/\Below W.heap.size W w' /\(r=true↔x=y)
theorem zkd(K:Nat)(eg:∀ args w,(callFunc K args).run Tryz.prog w=.ok (.enter K args) w)(hK:zrP K)(a a' : Option Addr)(c c' : Nat)(S D:List Cl)(w:World)(hN:S.length<=9223372036854775807)(hB:zlb S)(h1:zaF w a S)(h2:zaF w a' D) :
  yL 45 #[.slice a S.length c,.slice a' D.length c', .func (.func K) #[] #[]] w fun e w' => ∃ r:Bool,e=.returned (.bool r)/\Below w.heap.size w w' /\(r=true↔S=D):=by
 by_cases hl:S.length=D.length
 ·have E1:Hid ((∀ i,i<S.length->cl S i=cl D i)->S=D):=fun h=>zzi hl h;have E2:Hid (∀ i,cl S i≠cl D i->S≠D):=fun i h e=>h (by rw[e]);have H1:Hid (zaF w a S):=h1;have H2:Hid (zaF w a' D):=h2;have HB:Hid (zlb S):=hB;have HK:Hid (zrP K):=hK;have HL:Hid (D.length=S.length):=hl.symm;rw[<- hl];clear h1 h2 hB hl hK;generalize hn:S.length=n at *;have HN:Hid _:=hn;clear hn
  go_enter Tryz.func45,Tryz.ntmps45
  go_wp2
  go_loopg [17] n (fun g s17 wr=>∃ k:Nat,k<=n/\n-k<=g/\s17=.int .i64 k/\Below w.heap.size w wr/\Hid (∀ i,i<k->cl S i=cl D i))
  case atStart=>exact⟨0,by omega,by omega,rfl,yk _ _,fun i hi=>by omega⟩
  case round =>
   obtain⟨k,hk,hg,rfl,E,A⟩:=hrel;by_cases F:k<n
   ·have a8:(k:Int)<(n:Int):=(by omega);obtain⟨b,o,rfl,c0,ka,kc,c5,J⟩:=(H1.out.below E) k (by rw[HN.out];exact F);obtain⟨b', o', rfl,e0,a5,a6,e5,M⟩:=(H2.out.below E) k (by rw[HL.out];exact F);have a9:=yd _ _ c0;have a7:=yd _ _ e0;have d1:=fun o1 o2=>HK.out (cl S k) (cl D k) ka a5 kc a6 ((wr.alloc o1).alloc o2) (HB.out k (by rw[HN.out];exact F)) (J.below (zam _ _ _)) (M.below (zam _ _ _));have T:Hid _:=E2.out k
    have KK:Hid (cl S k=cl D k->∀ i,i<k+1->cl S i=cl D i):=fun h i hi=>by
     by_cases e:i=k
     ·subst e;exact h
     ·exact A.out i (by omega)
    clear J M;have D1:Hid _:=d1;clear d1;generalize cl S k=x at *;generalize cl D k=y at *
    go_wp2_with fail
    refine(D1.out _ _).mono ?_;rintro e w3 ⟨r,rfl,I,O⟩
    cases r with
    | true =>
     have Z:Hid _:=O.1 rfl;clear O
     go_wp2
     go_roundg (n-(k+1))
     case measure=>omega
     case rel=>exact⟨k+1,by omega,by omega,by go_num,(E.trans ((zam _ _ _).mono E.size)).trans (I.mono (by simp;have:=E.size;omega)),KK.out Z.out⟩
    | false =>
     have Z:Hid (S≠D):=T.out fun e=>by have:=O.2 e;cases this
     clear O
     go_wp2
     go_ret;exact⟨false,rfl,(E.trans ((zam _ _ _).mono E.size)).trans (I.mono (by simp;have:=E.size;omega)),⟨fun h=>(by cases h),fun h=>absurd h Z.out⟩⟩
   ·have:k=n:=(by omega);subst this
    go_wp2
    go_ret;exact⟨true,rfl,E,⟨fun _=>E1.out A.out,fun _=>rfl⟩⟩
 ·have b0:¬ ((S.length:Int)=(D.length:Int)):=by omega
  have U:Hid (S≠D):=fun e=>hl (by rw[e]);clear h1 h2 hB hK;generalize S.length=n at *;generalize D.length=n' at *
  go_enter Tryz.func45,Tryz.ntmps45
  go_wp2
  go_ret;exact⟨false,rfl,yk _ _,⟨fun h=>(by cases h),fun h=>absurd h U.out⟩⟩
theorem zqz:zrP 46:=by
 intro x y ka U kc a5 W M h1 h2;have F:Hid (x=y↔(x.n=y.n/\x.ks=y.ks)):=zsq x y;have d:=fun(w' : World) (i1:zal w' ka x.ks) (i2:zal w' U y.ks)=>ziT ka U kc a5 x.ks y.ks w' M i1 i2;have D:Hid _:=d;have I1:Hid (∀ o1 o2,zal ((W.alloc o1).alloc o2) ka x.ks):=fun o1 o2=>h1.below (zam _ _ _);have I2:Hid (∀ o1 o2,zal ((W.alloc o1).alloc o2) U y.ks):=fun o1 o2=>h2.below (zam _ _ _);clear h1 h2 d;obtain⟨xn,I⟩:=x;obtain⟨yn,J⟩:=y;dsimp only at F D I1 I2 |-;obtain⟨xl,O⟩:∃ z,I.length=z:=⟨_,rfl⟩;obtain⟨yl,T⟩:∃ z,J.length=z:=⟨_,rfl⟩;rw[O,T] at D;rw[O,T];clear O T M;by_cases he:xn=yn
 ·have E:Hid ((⟨xn,I⟩:Cl)=⟨yn,J⟩↔I=J):=by show _↔_;rw[F.out];simp[he]
  subst he;clear F
  go_enter Tryz.func46,Tryz.ntmps46
  go_wp2_with fail
  refine ye (D.out _ (I1.out _ _) (I2.out _ _)) ?_;rintro e w1 ⟨rfl,hb⟩;have HB:Hid (Below W.heap.size W w1):=(zam _ _ _).trans (hb.mono (by simp;omega));clear hb;by_cases Z:I=J
  ·have HR:Hid _:=E.out.2 Z;rw[yF Z];clear Z E
   go_wp2
   go_ret;exact⟨true,rfl,HB.out,⟨fun _=>HR.out,fun _=>rfl⟩⟩
  ·have HR:Hid _:=fun h=>Z (E.out.1 h);rw[yE Z];clear Z E
   go_wp2
   go_ret;exact⟨false,rfl,HB.out,⟨fun h=>(by cases h),fun h=>absurd h HR.out⟩⟩
 ·have hd:decide (xn=yn)=false:=yE he;have a6:(xn == yn)=false:=by simp[he]
  have HR:Hid (¬ (⟨xn,I⟩:Cl)=⟨yn,J⟩):=fun h=>he (F.out.1 h).1;clear F
  go_enter Tryz.func46,Tryz.ntmps46
  go_wp2_with fail
  go_ret;exact⟨false,rfl,zam _ _ _,⟨fun h=>(by cases h),fun h=>absurd h HR.out⟩⟩
theorem zsY(a E:Option Addr)(c F:Nat)(S D:List Cl)(w:World)(U:S.length<=9223372036854775807)(J:zlb S)(h1:zaF w a S)(I:zaF w E D) :
  yL 15 #[.agg #[.slice a S.length c],.agg #[.slice E D.length F]] w fun e w' => ∃ r:Bool,e=.returned (.bool r)/\Below w.heap.size w w' /\(r=true↔S=D):=by
 have O:Hid _:=fun o1 o2=>zkd 46 (yJ Tryz.func46 (by kernel_rfl) rfl) zqz a E c F S D ((w.alloc o1).alloc o2) U J (h1.below (zam _ _ _)) (I.below (zam _ _ _));clear h1 I J;generalize S.length=n at *;generalize D.length=n' at *
 go_enter Tryz.func15,Tryz.ntmps15
 go_wp2_with (go_at_call 45;refine(O.out _ _).mono ?_;rintro e w1 ⟨r,rfl,Z,M⟩;have T:Hid _:=M;clear M)
 go_ret;exact⟨r,rfl,(zam _ _ _).trans (Z.mono (by simp;omega)),T.out⟩
end Go.Proofs.YtcbcpomacdngmaaGreat
