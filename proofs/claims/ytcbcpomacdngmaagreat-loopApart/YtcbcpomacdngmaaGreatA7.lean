/-
  x
-/
import Derived.Test.YtcbcpomacdngmaaGreatA6
namespace Go.Proofs.YtcbcpomacdngmaaGreat
set_option maxRecDepth 100000
set_option maxHeartbeats 4000000
set_option linter.unusedVariables false
open Go.RowKit Tryz
variable{S:List Nd}{D pa j i at' E:Nat}{x y:Nd}{N c:Int}{ks:List Int}
def QK(X:Nat->Prop)(K:Nat)(D:Array Value)(p:Int->Bool)(w:Wd):Prop :=
 ∀ (x:Int) (w1:Wd),Off X w w1->yO K (#[.int .i64 x] ++ D) w1 fun e w2=>e=.returned (.bool (p x))/\Below w1.heap.size w1 w2
def flt(p:Int->Bool)(ks:List Int):List Int:=ks.filter fun x=>!p x
theorem xB(p:Int->Bool)(ks:List Int)(j:Nat)(h:j<ks.length):flt p (ks.take (j+1))=flt p (ks.take j)++(if p (ks.getD j 0) then [] else [ks.getD j 0]):=by
 unfold flt;rw[List.take_succ_eq_append_getElem h,List.filter_append,aJ ks 0 h]
 cases hp:p ks[j] <;> simp[hp]
theorem AJ(p:Int->Bool)(ks:List Int)(h:∀ i,i<ks.length->p (ks.getD i 0)=false):flt p ks=ks:=by
 unfold flt;rw[List.filter_eq_self];intro x D;obtain⟨i,hi,rfl⟩:=List.getElem_of_mem D;have:=h i hi;rw[aJ ks 0 hi] at this;simp[this]
theorem IP(p:Int->Bool)(ks:List Int):(flt p ks).length<=ks.length:=List.length_filter_le _ _
def IQ(w:Wd)(kb cap:Nat)(l:List Int)(e:Ending)(w' : World):Prop :=
 e=.returned (.slice (some ⟨kb,0,none⟩) l.length cap)/\Off (fun b=>b=kb) w w' /\ ∃ G,w'.rowIs kb 3 cap G/\∀ j,j<l.length->G j=.int .i64 (l.getD j 0)
theorem Cz(K:Nat)(I:Array Value)(p:Int->Bool)(kb L cap:Nat)(ks:List Int)(G:Nat->Value)(w:Wd)(hL:ks.length=L)(hc:L<=cap)(d5:cap<=1000000000)(hG:w.rowIs kb 3 cap G)(a7:∀ j,j<L->G j=.int .i64 (ks.getD j 0))
  (eg:∀ args w,(callFunc K args).run prog w=.ok (.enter K args) w) (hT:QK (fun b=>b=kb) K I p w) :
  yO 197 #[.slice (some ⟨kb,0,none⟩) L cap,.func (.func K) #[] I] w (IQ w kb cap (flt p ks)):=by
 have di:=PD K I p (some ⟨kb,0,none⟩) cap ks w oaa (qB hG oaa (by rw[hL];exact a7)) eg (fun x w1 hb=>hT x w1 (Off.of_below hb));rw[hL] at di;have HG:Hid (w.rowIs kb 3 cap G):=hG;have a6:Hid _:=a7;have HT:Hid (QK (fun b=>b=kb) K I p w):=hT;have T:Hid _:=hL;have b2:=hG.lt;clear hG a7 hT hL
 go_enter func197,ntmps197
 go_wp2_with fail
 refine di.mono ?_;rintro e w1 ⟨r,rfl,M,hr⟩;clear di;rcases hr with ⟨rfl,a5⟩ |⟨k,hk,rfl,hp,hf⟩
 ·have a9:=AJ p ks (by rw[T.out];exact a5);have E:Hid _:=a9;clear a5 a9
  go_wp2
  go_ret;refine⟨by rw[E.out,T.out];rfl,Off.of_below M,G,HG.of_block (M.block kb b2),fun j hj=>?_⟩;rw[E.out] at hj |-;exact a6.out j (by rw[<- T.out];exact hj)
 ·have d4:((k:Int) == -1)=false:=beq_eq_false_iff_ne.2 oaa
  have F0:Hid (flt p (ks.take (k+1))=ks.take k):=by
   show _=_;rw[xB p ks k (by rw[T.out];exact hk),hp,ye rfl,List.append_nil];refine AJ p _ (fun i hi=>?_);rw[List.length_take] at hi;have b3:=T.out;have h1:=hf i oaa;rw[aJ ks 0 oaa] at h1;rw[aJ (ks.take k) 0 (by rw[List.length_take];omega),List.getElem_take];exact h1
  have a8:Hid (w1.rowIs kb 3 cap G):=HG.of_block (M.block kb b2)
  have FI:Hid (∀ t,t<k->G t=.int .i64 ((flt p (ks.take (k+1))).getD t 0)):=fun t O=>by
   have b3:=T.out;rw[F0.out,a6.out t oaa,aJ ks 0 oaa,aJ (ks.take k) 0 (by rw[List.length_take];omega),List.getElem_take]
  have FL:Hid ((flt p (ks.take (k+1))).length=k):=by
   have b3:=T.out;show _=_;rw[F0.out,List.length_take];omega
  have O1:Hid (Off (fun b=>b=kb) w w1):=Off.of_below M;clear hp hf M
  go_wp2
  go_loopg [5,6] L (fun g1 s5 s6 wr=>∃ (i j:Nat) (G2:Nat->Value),i<j/\j<=L/\L-j<=g1/\s5=.int .i64 i/\s6=.int .i64 j/\Hid (Off (fun b=>b=kb) w wr)/\Hid (wr.rowIs kb 3 cap G2)/\Hid ((flt p (ks.take j)).length=i)/\Hid (∀ t,t<i->G2 t=.int .i64 ((flt p (ks.take j)).getD t 0))/\Hid (∀ t,j<=t->t<L->G2 t=.int .i64 (ks.getD t 0)))
  case atStart=>exact⟨k,k+1,G,oaa,oaa,oaa,rfl,by go_num,O1,a8,FL,FI,(show Hid _ from fun t _ O=>a6.out t O)⟩
  case round =>
   clear a8 FI FL O1;obtain⟨i,j,G2,c8,c9,b9,rfl,rfl,O2,R2,L2,I2,J2⟩:=hrel;have U:kb<wr.heap.size:=R2.lt;have b0:=R2.frozen;by_cases b4:j<L
   ·have b6:(j:Int)<(L:Int):=oaa;have cj:=R2.cell (i:=j) oaa;rw[J2.out j (yr _) b4] at cj;have ci:=R2.cell (i:=i) oaa;have D:=HT.out (ks.getD j 0) wr O2.out;have Z:=xB p ks j (by rw[T.out];exact b4);generalize hy:ks.getD j 0=y at *;have HY:Hid _:=hy;clear hy
    cases hq:p y with
    | true =>
     rw[hq] at D Z;rw[ye rfl,List.append_nil] at Z;have J:Hid _:=Z;clear Z
     go_wp2_with (go_at_fn K;refine D.mono ?_;rintro e w2 ⟨rfl,F⟩)
     go_roundg (L-(j+1))
     case measure=>omega
     case rel=>exact⟨i,j+1,G2,oaa,oaa,oaa,rfl,by go_num,O2.trans (Off.of_below F),R2.of_block (F.block kb U),(show _=_ by rw[J.out];exact L2.out),(show Hid _ from fun t O=>by rw[J.out];exact I2.out t O),(show Hid _ from fun t h1 h2=>J2.out t oaa h2)⟩
    | false =>
     rw[hq] at D Z;rw[yd oac] at Z;have J:Hid _:=Z;clear Z
     go_wp2_with (go_at_fn K;refine D.mono ?_;rintro e w2 ⟨rfl,F⟩;have b7:=(F.cell (by exact U)).trans ci;have b5:=fun o=>(F.frozen (by exact U)).trans (b0 o))
     go_roundg (L-(j+1))
     case measure=>omega
     case rel =>
      refine⟨i+1,j+1,_,oaa,oaa,oaa,by go_num,by go_num,(O2.trans (Off.of_below F)).trans (uA (X:=fun b=>b=kb) _ rfl _),(R2.of_block (F.block kb U)).set i (.int .i64 y),(show _=_ by rw[J.out,List.length_append,L2.out];rfl),(show Hid _ from fun t O=>?_),(show Hid _ from fun t h1 h2=>?_)⟩
      ·rw[J.out];by_cases e:t=i
       ·subst e;rw[ye rfl];simp[List.getD,L2.out]
       ·rw[yd e,I2.out t oaa];simp[List.getD,List.getElem?_append,L2.out,show t<i by omega]
      ·rw[yd oaa];exact J2.out t oaa h2
   ·have b1:j=L:=oaa;subst b1;have c7:(i:Int)<=(cap:Int):=oaa;have c6:(i:Int)<=(j:Int):=oaa
    have EF:Hid (flt p (ks.take j)=flt p ks):=by
     show _=_;rw[<- T.out,List.take_length]
    have b8:∀ ty,(Builtin.clear_ #[48] ty #[.slice (some ⟨kb,i,none⟩) (j-i) (cap-i)]).run prog wr=.ok (.tuple #[]) (wr.setCells kb i (List.replicate (j-i) (.int .i64 0))):=fun ty=>Lib.run_clear_slice wr 48 3 ty (.int .i64 0) underlying48 zeroValue3 rfl rfl kb i (j-i) (cap-i) oaa (fun t O=>by rw[R2.cell oaa];rfl) (fun t O=>b0 _)
    go_wp2
    go_ret;refine⟨?_,O2.trans (qA (X:=fun b=>b=kb) rfl _ _ _),_,pY _ _ _ _ R2.out,fun t O=>?_⟩
    ·rw[<- EF.out,L2.out];rfl
    ·rw[<- EF.out,L2.out] at O;rw[yd oaa,I2.out t O,EF.out]
theorem QL{w1:Wd}{p:Addr}{v:Value}(h:w1.cell? p=some v)(D:Obj):(w1.alloc D).cell? p=some v :=
 (((yv _ _).alloc (yr _) D).cell (yi _ _ h)).trans h
theorem Da(x c:Int)(b:Nat)(w:Wd)(hc:w.cell? ⟨b,0,none⟩=some (.int .i64 c)) :
  yO 198 #[.int .i64 x,.pointer (some ⟨b,0,none⟩)] w fun e w' => e=.returned (.bool (decide (x=c)))/\w' = w:=by
 by_cases h:x=c
 ·subst h
  go_enter func198,ntmps198
  go_wp2
  go_ret;exact⟨oac,rfl⟩
 ·have hd:decide (x=c)=false:=yH h;have D:(x == c)=false:=beq_eq_false_iff_ne.2 h;rw[hd]
  go_enter func198,ntmps198
  go_wp2
  go_ret;refine⟨?_,rfl⟩
  first
   | rfl
   | simp[D]
def rE(S:List Nd)(pa D:Nat)(j:Nat):Nd :=
 if j=D then ⟨(nd S D).u,(nd S D).n,(nd S D).t,(nd S D).m,-1,(nd S D).ks,(nd S D).h,(nd S D).c⟩
 else if j=pa then ⟨(nd S pa).u,(nd S pa).n,(nd S pa).t,(nd S pa).m,(nd S pa).p,flt (fun x=>decide (x=(D:Int))) (nd S pa).ks,(nd S pa).h,(nd S pa).c⟩
 else nd S j
def eD(S:List Nd)(pa D:Nat):List Nd:=(List.range S.length).map (rE S pa D)
theorem rF(S:List Nd)(pa D:Nat):(eD S pa D).length=S.length:=by simp[eD]
theorem xC(S:List Nd)(pa D j:Nat)(E:j<S.length):nd (eD S pa D) j=rE S pa D j:=by
 rw[eQ (by rw[rF];exact E)];simp[eD]
theorem Db{w w2:Wd}{B g:Nat}{kb kc:Nat->Nat}(hO:Own w B g S kb kc S.length){W:Wd}(hb:Bl w W)(hpa:pa<S.length)(hch:D<S.length)(a8:pa≠D)
  (O:Off (fun b=>b=kb pa) W w2) {G:Nat->Value} (hG:w2.rowIs (kb pa) 3 (kc pa) G) (a5:∀ j,j<(flt (fun x=>decide (x=(D:Int))) (nd S pa).ks).length->G j=.int .i64 ((flt (fun x=>decide (x=(D:Int))) (nd S pa).ks).getD j 0)) :
  Own ((w2.setCell ⟨g,pa*8+5,none⟩ (.slice (some ⟨kb pa,0,none⟩) (flt (fun x=>decide (x=(D:Int))) (nd S pa).ks).length (kc pa))).setCell ⟨g,D*8+4,none⟩ (.int .i64 (-1))) B g (eD S pa D) kb kc (eD S pa D).length:=by
 obtain⟨hB,F,hF,hN,hg,hd⟩:=hO;have a7:=hF.lt;have hW:∀ b,b<w.heap.size->b≠kb pa->w2.heap[b]?=w.heap[b]?:=fun b h1 M=>(O.block b (yC h1 hb.size) M).trans (hb.block b h1);have a6:g≠kb pa:=by have:=hg pa hpa;omega
 have Z:=(((hF.of_block (hW g a7 a6)).set (pa*8+5) (.slice (some ⟨kb pa,0,none⟩) (flt (fun x=>decide (x=(D:Int))) (nd S pa).ks).length (kc pa))).set (D*8+4) (.int .i64 (-1)));rw[rF];refine⟨hB,_,by rw[rF];exact Z,fun j I=>?_,hg,hd⟩;rw[xC S pa D j I];obtain⟨e0,e1,e2,e3,e4,e5,e6,e7,U,J,G0,E,e9⟩:=hN j I;unfold rE;by_cases h1:j=D
 ·subst h1;rw[ye rfl];have T:=((E.of_block (hW (kb j) E.lt (fun e=>a8 (hd pa hpa j I e.symm)))).setOther (a:=⟨g,pa*8+5,none⟩) (by have:=hg j I;simp;omega) (.slice (some ⟨kb pa,0,none⟩) (flt (fun x=>decide (x=(j:Int))) (nd S pa).ks).length (kc pa))).setOther (a:=⟨g,j*8+4,none⟩) (by have:=hg j I;simp;omega) (.int .i64 (-1));refine⟨?_,?_,?_,?_,?_,?_,?_,?_,U,J,G0,T,e9⟩
  all_goals dsimp only
  ·rw[yd oaa,yd oaa,e0]
  ·rw[yd oaa,yd oaa,e1]
  ·rw[yd oaa,yd oaa,e2]
  ·rw[yd oaa,yd oaa,e3]
  ·rw[ye rfl]
  ·rw[yd oaa,yd oaa,e5]
  ·rw[yd oaa,yd oaa,e6]
  ·rw[yd oaa,yd oaa,e7]
 ·rw[yd h1];by_cases M:j=pa
  ·subst M;rw[ye rfl];have T:=(hG.setOther (a:=⟨g,j*8+5,none⟩) oab (.slice (some ⟨kb j,0,none⟩) (flt (fun x=>decide (x=(D:Int))) (nd S j).ks).length (kc j))).setOther (a:=⟨g,D*8+4,none⟩) oab (.int .i64 (-1));refine⟨?_,?_,?_,?_,?_,?_,?_,?_,yJ (IP _ _) U,J,G,T,a5⟩
   all_goals dsimp only
   ·rw[yd oaa,yd oaa,e0]
   ·rw[yd oaa,yd oaa,e1]
   ·rw[yd oaa,yd oaa,e2]
   ·rw[yd oaa,yd oaa,e3]
   ·rw[yd oaa,yd oaa,e4]
   ·rw[yd oaa,ye rfl]
   ·rw[yd oaa,yd oaa,e6]
   ·rw[yd oaa,yd oaa,e7]
  ·rw[yd M];have T:=((E.of_block (hW (kb j) E.lt (fun e=>M (hd j I pa hpa e)))).setOther (a:=⟨g,pa*8+5,none⟩) (by have:=hg j I;simp;omega) (.slice (some ⟨kb pa,0,none⟩) (flt (fun x=>decide (x=(D:Int))) (nd S pa).ks).length (kc pa))).setOther (a:=⟨g,D*8+4,none⟩) (by have:=hg j I;simp;omega) (.int .i64 (-1));refine⟨?_,?_,?_,?_,?_,?_,?_,?_,U,J,G0,T,e9⟩
   all_goals
    dsimp only;rw[yd oaa,yd oaa];assumption
theorem QM(B g c:Nat)(S:List Nd)(kb kc:Nat->Nat)(pa D:Nat)(w:Wd)(hO:Own w B g S kb kc S.length)(hpa:pa<S.length)(hch:D<S.length)(b3:pa≠D)(hp:(nd S D).p=pa) :
  yO 186 #[.slice (some ⟨g,0,none⟩) S.length c,.int .i64 D] w fun e w' => e=.returned (.tuple #[])/\Off (fun b=>b=g\/b=kb pa) w w' /\ Own w' B g (eD S pa D) kb kc (eD S pa D).length:=by
 have AF:Hid (∀ (W w2:Wd) (G' : Nat->Value),Bl w W->Off (fun b=>b=kb pa) W w2->w2.rowIs (kb pa) 3 (kc pa) G' ->(∀ j,j<(flt (fun x=>decide (x=(D:Int))) (nd S pa).ks).length->G' j=.int .i64 ((flt (fun x=>decide (x=(D:Int))) (nd S pa).ks).getD j 0))->Own ((w2.setCell ⟨g,pa*8+5,none⟩ (.slice (some ⟨kb pa,0,none⟩) (flt (fun x=>decide (x=(D:Int))) (nd S pa).ks).length (kc pa))).setCell ⟨g,D*8+4,none⟩ (.int .i64 (-1))) B g (eD S pa D) kb kc (eD S pa D).length):=fun W w2 G' h1 Z h3 h4=>Db hO h1 hpa hch b3 Z h3 h4;obtain⟨hB,F,hF,O,hg,hd⟩:=hO;obtain⟨e0,e1,e2,e3,e4,e5,e6,e7,e8,a9,G,hG,e9⟩:=O pa hpa;obtain⟨f0,f1,f2,f3,f4,f5,f6,f7,f8,b0,G2,b1,f9⟩:=O D hch;have U:=hF.lt;have b2:=hF.frozen;have q5:w.cell? ⟨g,pa*8+5,none⟩=some (.slice (some ⟨kb pa,0,none⟩) (nd S pa).ks.length (kc pa)):=by rw[hF.cell oaa,e5]
 have q4:w.cell? ⟨g,D*8+4,none⟩=some (.int .i64 (pa:Int)):=by rw[hF.cell oaa,f4,hp]
 have b8:=hG.lt;have b7:=hg pa hpa
 have dd:Hid (∀ (W:Wd),Bl w W->W.cell? ⟨w.heap.size,0,none⟩=some (.int .i64 (D:Int))->yO 197 #[.slice (some ⟨kb pa,0,none⟩) (nd S pa).ks.length (kc pa),.func (.func 198) #[] #[.pointer (some ⟨w.heap.size,0,none⟩)]] W (IQ W (kb pa) (kc pa) (flt (fun x=>decide (x=(D:Int))) (nd S pa).ks))):=fun W hW I =>
  Cz 198 #[.pointer (some ⟨w.heap.size,0,none⟩)] (fun x=>decide (x=(D:Int))) (kb pa) (nd S pa).ks.length (kc pa) (nd S pa).ks G W rfl e8 oaa (hG.of_block (hW.block _ hG.lt)) e9 (yM func198 oad rfl)
   (fun x w1 E=>(Da x (D:Int) w.heap.size w1 ((E.cell (yi _ _ I) (by show ¬ (w.heap.size=kb pa);omega)).trans I)).mono (fun e w3 h=>⟨h.1,by rw[h.2];exact yv _ _⟩))
 have b6:(pa:Int)<(S.length:Int):=oaa
 have b5:(D:Int)<(S.length:Int):=oaa
 have b9:((pa:Int) == -1)=false:=beq_eq_false_iff_ne.2 oaa;clear e0 e1 e2 e3 e4 e5 e6 e7 e8 a9 hG e9 f0 f1 f2 f3 f4 f5 f6 f7 f8 b0 b1 f9 hF O hd hg hp;generalize (nd S pa).ks.length=L at *;generalize S.length=n at *;have Q5:=QL q5;have Q4:=QL q4
 have a6:Hid (∀ w2 o1,Off (fun b=>b=kb pa) (w.alloc o1) w2->w2.cell? ⟨g,pa*8+5,none⟩=some (.slice (some ⟨kb pa,0,none⟩) L (kc pa))/\(∀ v,(w2.setCell ⟨g,pa*8+5,none⟩ v).cell? ⟨g,D*8+4,none⟩=some (.int .i64 (pa:Int)))/\(∀ o,w2.frozen? ⟨g,o,none⟩=false)):=fun w2 o1 Z=>by
  have T:=(yv _ w).alloc (yr _) o1;refine⟨?_,fun v=>?_,fun o=>?_⟩
  ·exact((Z.cell oab oab).trans (T.cell (by exact U))).trans q5
  ·rw[World.cell?_setCell_other _ _ _ _ oac];exact((Z.cell oab oab).trans (T.cell (by exact U))).trans q4
  ·exact((Z.frozen oab oab).trans (T.frozen (by exact U))).trans (b2 o)
 go_enter func186,ntmps186
 go_wp2_with (go_at_call 197;refine(dd _ ((yv _ _).alloc (yr _) _) oaf).mono ?_;rintro e w2 ⟨rfl,E,G', a5,M⟩;obtain⟨s5,s4,sf⟩:=a6.out w2 _ E;have b4:w2.cell? ⟨w.heap.size,0,none⟩=some (.int .i64 (D:Int)):=(E.cell oac (by show ¬ (w.heap.size=kb pa);omega)).trans oaf;have a7:Hid _:=a5;have a8:Hid _:=M;have J:Hid _:=E;clear a5 M E)
 refine bodyPost_end (v:=.tuple #[]) (by simp[results,results186,go_sem]) rfl ⟨rfl,?_,AF.out _ _ _ ((yv _ _).alloc (yr _) _) J.out a7.out a8.out⟩;have h1:Off (fun b=>b=g\/b=kb pa) w w2:=(Off.of_below ((yv _ _).alloc (yr _) _)).trans (J.mono (fun k _ h=>Or.inr h));exact(h1.trans (uA _ (Or.inl rfl) _)).trans (uA _ (Or.inl rfl) _)
theorem AY(h:S.length<=j):nd S j=oJ:=by
 unfold nd;rw[List.getD_eq_getElem?_getD,List.getElem?_eq_none h];rfl
theorem rG(h1:iO x=true)(D:kV N x=true)(E:gV x=true):iP N x=0:=by
 unfold iP;rw[ye h1,ye D,ye E]
theorem xE(T:∀ i,i<S.length->(nd S i).ks.Nodup)(M:∀ i,i<S.length->∀ x ∈ (nd S i).ks,∃ j:Nat,x=j/\j<S.length/\(nd S j).u=true/\(nd S j).p=i)
  (U:∀ j,j<S.length->(nd S j).p≠-1->∃ i:Nat,i<S.length/\(j:Int) ∈ (nd S i).ks):lW S:=by
 refine⟨fun i hi x hx=>?_,fun j Z=>⟨?_,fun J=>?_⟩⟩
 ·obtain⟨j,rfl,h1,D,F⟩:=M i hi x hx;exact⟨oaa,by rw[yk];exact D,by rw[yk];exact F⟩
 ·have:∀ k,k<=S.length->dP S k j<=1/\(∀ i:Nat,(nd S j).p=i->k<=i->dP S k j=0):=by
   intro k
   induction k with
   | zero=>intro _;rw[PM];exact⟨oaa,fun _ _ _=>rfl⟩
   | succ k ih =>
    intro hk;obtain⟨h1,D⟩:=ih oaa;rw[wJ S k j oaa];by_cases E:(j:Int) ∈ (nd S k).ks
    ·obtain⟨O,e,_,_,J⟩:=M k oaa _ E;have:O=j:=oaa;subst this;have F:=D k J (yr _);have h4:=List.nodup_iff_count.1 (T k oaa) (O:Int);exact⟨oaa,fun i hi I=>oaa⟩
    ·rw[List.count_eq_zero.2 E];exact⟨oaa,fun i hi I=>by have:=D i hi oaa;omega⟩
  exact(this S.length (yr _)).1
 ·obtain⟨i,hi,E⟩:=U j Z J;have h1:=wJ S i j hi;have D:=List.count_pos_iff.2 E;have F:=QU S j (k:=i+1) (k' := S.length) oaa (yr _);omega
theorem QX{S:List Nd}(D:Nat):∀ (f:Nat) (y:Int),eB S bA (tQ D) f y false=true->∃ (E:Nat) (j:Nat),y=E/\E<S.length/\j+1<=f/\Up S j E D
 | 0,_,h=>by simp[eB] at h
 | f+1,y,h=>by
  simp only[eB] at h;by_cases F:dZ S.length y=true
  ·have T:0<=y/\y<=(S.length:Int)-1:=of_decide_eq_true F;obtain⟨E,rfl⟩:∃ k:Nat,y=(k:Int):=⟨y.toNat,oaa⟩;rw[ye F] at h;simp only[tQ,yk] at h;by_cases e:(E:Int)=(D:Int)
   ·exact⟨E,0,rfl,oaa,oaa,by show E=D;omega⟩
   ·simp only[yH e,Bool.not_false,if_true] at h;obtain⟨z,j,M,I,O,J⟩:=QX D f _ h;exact⟨E,j+1,rfl,oaa,oaa,⟨z,I,M,J⟩⟩
  ·rw[yd F] at h;cases h
theorem uE{x:Nat}(J:x<S.length)(h:dF S x D=true):∃ j,1<=j/\j<=S.length/\Up S j x D:=by
 unfold dF at h;rw[ye (show dZ S.length (x:Int)=true from yI ⟨oaa,oaa⟩),yk] at h;obtain⟨y,j,e,F,I,E⟩:=QX D _ _ h;exact⟨j+1,oaa,oaa,⟨y,F,e,E⟩⟩
theorem QY{x:Nat}(F:x<S.length)(h1:1<=j)(E:j<=S.length)(h:Up S j x D):dF S x D=true:=by
 obtain⟨j,rfl⟩:∃ i,j=i+1:=⟨j-1,oaa⟩;unfold dF;rw[ye (show dZ S.length (x:Int)=true from yI ⟨oaa,oaa⟩),yk,IV false h E]
theorem WF.up_short'(h:WF S):∀ (j x z:Nat) (r:List Nat),x<S.length->(x :: r).Nodup->(∀ y ∈ r,y<S.length/\∃ i,1<=i/\i<=r.length/\Up S i y x)->Up S j x z->j+r.length+1<=S.length
 | 0,x,z,r,M,hn,J,_=>by
  have:=AQ hn (fun y E=>by
   rcases List.mem_cons.1 E with rfl|E
   ·exact M
   ·exact(J y E).1)
  simp at this;omega
 | j+1,x,z,r,M,hn,J,⟨y,h1,T,h3⟩=>by
  have D:∀ y ∈ x :: r,y<S.length:=fun y E=>by
   rcases List.mem_cons.1 E with rfl|E
   ·exact M
   ·exact(J y E).1
  have hlen:=AQ hn D;simp at hlen
  have I:∀ q ∈ x :: r,∃ i,1<=i/\i<=(x :: r).length/\Up S i q y:=fun q F=>by
   rcases List.mem_cons.1 F with rfl|F
   ·exact⟨1,oaa,oac,WF.up_one h1 T⟩
   ·obtain⟨_,i,U,Z,O⟩:=J q F;exact⟨i+1,oaa,oab,O.trans (WF.up_one h1 T)⟩
  have:=h.up_short' j y z (x :: r) h1 (List.nodup_cons.2 ⟨fun hm=>by
   obtain⟨i,U,Z,O⟩:=I y hm;simp at Z;exact h.no_ring h1 U oaa O,hn⟩) (fun q F=>⟨D q F,I q F⟩) h3
  simp at this;omega
theorem WF.up_short(h:WF S){x z:Nat}(E:x<S.length)(D:Up S j x z):j+1<=S.length:=by
 have:=h.up_short' j x z [] E oac (fun y F=>by cases F) D;simpa using this
theorem xF{S A:List Nd}{D:Nat}(hl:A.length=S.length)(I:∀ y,y<S.length->y≠D->bA (nd A y)=bA (nd S y)):∀ {j x y:Nat},x<S.length->Up A j x y->Up S j x y\/∃ i m,i+m=j/\Up S i x D/\Up A m D y
 | 0,_,_,_,h=>Or.inl h
 | j+1,x,y,M,⟨z,h1,E,F⟩=>by
  by_cases e:x=D
  ·subst e;exact Or.inr ⟨0,j+1,oaa,rfl,⟨z,h1,E,F⟩⟩
  ·rw[I x M e] at E;rw[hl] at h1;rcases xF hl I h1 F with h |⟨i,m,hi,h,J⟩
   ·exact Or.inl ⟨z,h1,E,h⟩
   ·exact Or.inr ⟨i+1,m,oaa,⟨z,h1,E,h⟩,J⟩
theorem AZ{S A:List Nd}(hl:A.length=S.length)(D:∀ y,y<S.length->∀ z:Nat,bA (nd A y)=z->bA (nd S y)=z):∀ {j x y:Nat},x<S.length->Up A j x y->Up S j x y
 | 0,_,_,_,h=>h
 | _+1,x,_,I,⟨z,h1,E,F⟩=>⟨z,oaa,D x I z E,AZ hl D oaa F⟩
theorem WF.used_of_kid(h:WF S)(hi:i<S.length){x:Int}(E:x ∈ (nd S i).ks):(nd S i).u=true:=by
 have D:=(jY (h.node i hi)).2.2
 cases hu:(nd S i).u with
 | true=>rfl
 | false =>
  unfold gV at D;rw[hu] at D;have:=(of_decide_eq_true D).2.2.2.1;rw[this] at E;cases E
theorem WF.host_of_parent(h:WF S)(hch:E<S.length)(F:(nd S E).p≠-1):(nd S E).h = -1/\(nd S E).u=true:=by
 have D:=(jY (h.node E hch)).2.2;unfold gV at D
 split at D
 ·rename_i I
  split at D
  ·cases D
  ·split at D
   ·rename_i hh;exact⟨hh,I⟩
   ·exact absurd (of_decide_eq_true D) F
 ·exact absurd (of_decide_eq_true D).2.2.1 F
theorem WF.parent_place(h:WF S)(hch:D<S.length)(J:(nd S D).p≠-1):∃ pa:Nat,(nd S D).p=pa/\pa<S.length/\pa≠D/\(D:Int) ∈ (nd S pa).ks/\(nd S pa).u=true:=by
 have h1:=(wU (wT (h.node D hch))).2.2;obtain⟨pa,e⟩:∃ k:Nat,(nd S D).p=(k:Int):=⟨(nd S D).p.toNat,oaa⟩;obtain⟨E,F⟩:=h.in_kids hch e;refine⟨pa,e,E,fun I=>?_,F,h.used_of_kid E F⟩;subst I
 have M:bA (nd S pa)=pa:=by
  unfold bA;rw[ye (h.host_of_parent hch J).1];exact e
 exact h.no_ring hch (yr 1) oaa (WF.up_one hch M)
theorem rJ(S:List Nd)(pa D j:Nat):(nd (eD S pa D) j).u=(nd S j).u/\(nd (eD S pa D) j).n=(nd S j).n/\(nd (eD S pa D) j).h=(nd S j).h/\(nd (eD S pa D) j).t=(nd S j).t/\(nd (eD S pa D) j).m=(nd S j).m/\(nd (eD S pa D) j).c=(nd S j).c:=by
 by_cases E:j<S.length
 ·rw[xC S pa D j E];unfold rE;split
  ·rename_i e;subst e;exact⟨rfl,rfl,rfl,rfl,rfl,rfl⟩
  ·split
   ·rename_i e;subst e;exact⟨rfl,rfl,rfl,rfl,rfl,rfl⟩
   ·exact⟨rfl,rfl,rfl,rfl,rfl,rfl⟩
 ·rw[AY (S:=eD S pa D) (by rw[rF];omega),AY oaa];exact⟨rfl,rfl,rfl,rfl,rfl,rfl⟩
theorem uF(S:List Nd)(E:j<S.length):(nd (eD S pa D) j).p=if j=D then -1 else (nd S j).p:=by
 rw[xC S pa D j E];unfold rE;split
 ·rfl
 ·split
  ·rename_i e;subst e;rfl
  ·rfl
theorem IZ(S:List Nd)(E:pa≠D)(F:j<S.length):(nd (eD S pa D) j).ks=if j=pa then flt (fun x=>decide (x=(D:Int))) (nd S pa).ks else (nd S j).ks:=by
 rw[xC S pa D j F];unfold rE;split
 ·rename_i e;subst e;rw[yd (fun e=>E e.symm)]
 ·split
  ·rfl
  ·rfl
theorem QZ(h1:x.n=y.n)(D:x.t=y.t)(E:x.m=y.m)(h:iO y=true):iO x=true:=by
 unfold iO at *;rw[h1,D,E];exact h
theorem BA(h:kV N x=true):fA N x.p=true/\fA N x.h=true/\∀ k ∈ x.ks,fA N k=true:=by
 unfold kV at h;simp only[Bool.and_eq_true,Bool.not_eq_true', List.any_eq_false] at h;refine⟨h.1,h.2.1,fun k D=>?_⟩;have:=h.2.2 k D;simpa using this
theorem rM(h1:fA N x.p=true)(D:fA N x.h=true)(E:∀ k ∈ x.ks,fA N k=true):kV N x=true:=by
 unfold kV;simp only[Bool.and_eq_true,Bool.not_eq_true', List.any_eq_false];refine⟨h1,D,fun k F=>?_⟩;rw[E k F];simp
theorem BC(D:y.u=true)(h1:x.u=y.u)(E:x.n=y.n)(F:x.h=y.h)(I:x.c=y.c)(h5:y.h≠-1->x.p=y.p)(h:gV y=true):gV x=true:=by
 unfold gV at *;rw[h1,D,E,F,I];rw[D] at h;simp only[if_true] at *
 split at h
 ·cases h
 ·rename_i hn;rw[yd hn]
  split at h
  ·rename_i hh;rw[ye hh];exact h
  ·rename_i hh;rw[yd hh,h5 hh];exact h
theorem BD{p:Int->Bool}{x:Int}:x ∈ flt p ks↔x ∈ ks/\p x=false:=by
 unfold flt;rw[List.mem_filter]
 cases p x <;> simp
theorem WF.leave(h:WF S)(hch:E<S.length)(hp:(nd S E).p=pa):WF (eD S pa E):=by
 obtain⟨D,e,hpa,O,a6,hpu⟩:=h.parent_place hch oaa;have:D=pa:=oaa
 subst this;obtain⟨J,hcu⟩:=h.host_of_parent hch oaa;have hl:=rF S D E
 have M:∀ i,i<S.length->∀ x ∈ (nd (eD S D E) i).ks,x ∈ (nd S i).ks/\x≠(E:Int):=fun i hi x T=>by
  rw[IZ S O hi] at T
  split at T
  ·rename_i F;subst F;obtain⟨h1,h2⟩:=BD.1 T;exact⟨h1,of_decide_eq_false h2⟩
  ·rename_i F;refine⟨T,fun U=>?_⟩;obtain⟨k,e3,_,_,hk,_⟩:=h.kid hi T;have:k=E:=oaa;subst this;omega
 refine⟨by rw[hl];exact h.small,fun i hi=>?_,xE (fun i hi=>?_) (fun i hi x T=>?_) (fun j hj I=>?_),fun i hi=>?_,fun i hi=>?_⟩
 ·rw[hl] at hi |-;obtain⟨r1,r2,r3⟩:=jY (h.node i hi);obtain⟨n1,n2,n3⟩:=BA r2;obtain⟨u1,u2,u3,u4,u5,u6⟩:=rJ S D E i;refine rG (QZ u2 u4 u5 r1) (rM ?_ (by rw[u3];exact n2) (fun k hk=>n3 k (M i hi k hk).1)) ?_
  ·rw[uF S hi];split
   ·exact yI ⟨oaa,oaa⟩
   ·exact n1
  ·by_cases F:i=E
   ·subst F;exact BC hcu u1 u2 u3 u6 (fun hh=>absurd J hh) r3
   ·by_cases U:i=D
    ·subst U;exact BC hpu u1 u2 u3 u6 (fun _=>by rw[uF S hi,yd F]) r3
    ·rw[xC S D E i hi];unfold rE;rw[yd F,yd U];exact r3
 ·rw[hl] at hi;rw[IZ S O hi];split
  ·exact(h.kids_nodup hpa).filter _
  ·exact h.kids_nodup hi
 ·rw[hl] at hi |-;obtain⟨h1,h2⟩:=M i hi x T;obtain⟨k,rfl,k1,k2,k3,_⟩:=h.kid hi h1;refine⟨k,rfl,k1,by rw[(rJ S D E k).1];exact k2,?_⟩;rw[uF S k1,yd oaa];exact k3
 ·rw[hl] at hj |-;rw[uF S hj] at I
  split at I
  ·exact absurd rfl I
  ·rename_i F;obtain⟨i,i1,i2,_,i3,_⟩:=h.parent_place hj I;refine⟨i,i2,?_⟩;rw[IZ S O i2];split
   ·rename_i U;subst U;exact BD.2 ⟨i3,yH oaa⟩
   ·exact i3
 ·rw[hl] at hi;intro hh;rw[(rJ S D E i).2.2.1] at hh |-;obtain⟨g1,g2⟩:=h.hosts i hi hh;refine⟨by rw[(rJ S D E _).1];exact g1,fun i' a5=>by rw[(rJ S D E i').2.2.1];exact g2 i' a5⟩
 ·rw[hl] at hi
  cases hb:dF (eD S D E) i i with
  | false=>rfl
  | true =>
   obtain⟨j,j1,j2,j3⟩:=uE (by rw[hl];exact hi) hb;rw[hl] at j2;refine absurd (AZ hl (fun y hy z Z=>?_) hi j3) (h.no_ring hi j1 j2);unfold bA at *;rw[(rJ S D E y).2.2.1,uF S hy] at Z;by_cases F:y=E
   ·subst F;rw[ye J,ye rfl] at Z;omega
   ·rw[yd F] at Z;exact Z
theorem oN(S:List Nd)(pa D at' j:Nat):(nd (dD S pa D at') j).u=(nd S j).u/\(nd (dD S pa D at') j).n=(nd S j).n/\(nd (dD S pa D at') j).h=(nd S j).h/\(nd (dD S pa D at') j).t=(nd S j).t/\(nd (dD S pa D at') j).m=(nd S j).m/\(nd (dD S pa D at') j).c=(nd S j).c:=by
 by_cases E:j<S.length
 ·rw[xA S pa D at' j E];unfold rD;split
  ·rename_i e;subst e;exact⟨rfl,rfl,rfl,rfl,rfl,rfl⟩
  ·split
   ·rename_i e;subst e;exact⟨rfl,rfl,rfl,rfl,rfl,rfl⟩
   ·exact⟨rfl,rfl,rfl,rfl,rfl,rfl⟩
 ·rw[AY (S:=dD S pa D at') (by rw[qC];omega),AY oaa];exact⟨rfl,rfl,rfl,rfl,rfl,rfl⟩
theorem rO(S:List Nd)(E:j<S.length):(nd (dD S pa D at') j).p=if j=D then (pa:Int) else (nd S j).p:=by
 rw[xA S pa D at' j E];unfold rD;split
 ·rfl
 ·split
  ·rename_i e;subst e;rfl
  ·rfl
theorem xG(S:List Nd)(E:pa≠D)(F:j<S.length):(nd (dD S pa D at') j).ks=if j=pa then ins (nd S pa).ks at' D else (nd S j).ks:=by
 rw[xA S pa D at' j F];unfold rD;split
 ·rename_i e;subst e;rw[yd (fun e=>E e.symm)]
 ·split
  ·rfl
  ·rfl
theorem BH{x:Int}:x ∈ ins ks i c↔x=c\/x ∈ ks:=by
 unfold ins
 have D:x ∈ ks↔x ∈ ks.take i\/x ∈ ks.drop i:=by
  rw[<- List.mem_append,List.take_append_drop]
 rw[List.mem_append,List.mem_cons,D];constructor
 ·rintro(h|h|h)
  ·exact Or.inr (Or.inl h)
  ·exact Or.inl h
  ·exact Or.inr (Or.inr h)
 ·rintro(h|h|h)
  ·exact Or.inr (Or.inl h)
  ·exact Or.inl h
  ·exact Or.inr (Or.inr h)
theorem Dp(h:ks.Nodup)(hc:c ∉ ks):(ins ks i c).Nodup:=by
 unfold ins;have D:(ks.take i++ks.drop i).Nodup:=by rw[List.take_append_drop];exact h
 rw[List.nodup_append] at D |-;obtain⟨E,F,h5⟩:=D;refine⟨E,List.nodup_cons.2 ⟨fun I=>hc (List.mem_of_mem_drop I),F⟩,fun a ha b hb e=>?_⟩;rcases List.mem_cons.1 hb with rfl|hb
 ·rw[e] at ha;exact hc (List.mem_of_mem_take ha)
 ·exact h5 a ha b hb e
theorem WF.not_kid(h:WF S)(I:(nd S D).p = -1)(hi:i<S.length):(D:Int) ∉ (nd S i).ks:=fun E=>by
 obtain⟨k,e,_,_,F,_⟩:=h.kid hi E;have:k=D:=oaa
 subst this;omega
theorem WF.enter(h:WF S)(hpa:pa<S.length)(hch:D<S.length)(hpu:(nd S pa).u=true)(hcu:(nd S D).u=true)(a5:(nd S D).p = -1)(T:(nd S D).h = -1)(E:pa≠D)(a7:dF S pa D=false):WF (dD S pa D at'):=by
 have hl:=qC S pa D at';have U:∀ i,i<S.length->(D:Int) ∉ (nd S i).ks:=fun i hi=>h.not_kid a5 hi;refine⟨by rw[hl];exact h.small,fun i hi=>?_,xE (fun i hi=>?_) (fun i hi x O=>?_) (fun j hj I=>?_),fun i hi=>?_,fun i hi=>?_⟩
 ·rw[hl] at hi |-;obtain⟨r1,r2,r3⟩:=jY (h.node i hi);obtain⟨n1,n2,n3⟩:=BA r2;obtain⟨u1,u2,u3,u4,u5,u6⟩:=oN S pa D at' i;refine rG (QZ u2 u4 u5 r1) (rM ?_ (by rw[u3];exact n2) (fun k M=>?_)) ?_
  ·rw[rO S hi];split
   ·exact yI ⟨oaa,oaa⟩
   ·exact n1
  ·rw[xG S E hi] at M
   split at M
   ·rename_i F;subst F;rcases BH.1 M with rfl|M
    ·exact yI ⟨oaa,oaa⟩
    ·exact n3 k M
   ·exact n3 k M
  ·by_cases F:i=D
   ·subst F;exact BC hcu u1 u2 u3 u6 (fun hh=>absurd T hh) r3
   ·by_cases J:i=pa
    ·subst J;exact BC hpu u1 u2 u3 u6 (fun _=>by rw[rO S hi,yd F]) r3
    ·rw[xA S pa D at' i hi];unfold rD;rw[yd F,yd J];exact r3
 ·rw[hl] at hi;rw[xG S E hi];split
  ·exact Dp (h.kids_nodup hpa) (U pa hpa)
  ·exact h.kids_nodup hi
 ·rw[hl] at hi |-
  have hold:x ∈ (nd S i).ks->∃ j:Nat,x=j/\j<S.length/\(nd (dD S pa D at') j).u=true/\(nd (dD S pa D at') j).p=i:=fun hm=>by
   obtain⟨k,rfl,k1,k2,k3,_⟩:=h.kid hi hm;refine⟨k,rfl,k1,by rw[(oN S pa D at' k).1];exact k2,?_⟩;rw[rO S k1,yd (fun e=>U i hi (by rw[<- e];exact hm))];exact k3
  rw[xG S E hi] at O
  split at O
  ·rename_i F;subst F;rcases BH.1 O with rfl|O
   ·exact⟨D,rfl,hch,by rw[(oN S i D at' D).1];exact hcu,by rw[rO S hch,ye rfl]⟩
   ·exact hold O
  ·exact hold O
 ·rw[hl] at hj |-;rw[rO S hj] at I
  split at I
  ·rename_i F;subst F;exact⟨pa,hpa,by rw[xG S E hpa,ye rfl];exact BH.2 (Or.inl rfl)⟩
  ·obtain⟨i,i1,i2,_,i3,_⟩:=h.parent_place hj I;refine⟨i,i2,?_⟩;rw[xG S E i2];split
   ·rename_i J;subst J;exact BH.2 (Or.inr i3)
   ·exact i3
 ·rw[hl] at hi;intro hh;rw[(oN S pa D at' i).2.2.1] at hh |-;obtain⟨g1,g2⟩:=h.hosts i hi hh;refine⟨by rw[(oN S pa D at' _).1];exact g1,fun i' a6=>by rw[(oN S pa D at' i').2.2.1];exact g2 i' a6⟩
 ·rw[hl] at hi
  have hr:∀ y,y<S.length->y≠D->bA (nd (dD S pa D at') y)=bA (nd S y):=fun y hy e=>by
   unfold bA;rw[(oN S pa D at' y).2.2.1,rO S hy,yd e]
  have a8:bA (nd (dD S pa D at') D)=pa:=by
   unfold bA;rw[(oN S pa D at' D).2.2.1,ye T,rO S hch,ye rfl]
  have Z:∀ q,¬ Up S q pa D:=fun q hq=>by
   cases q with
   | zero=>exact E hq
   | succ q =>
    have:=QY hpa oaa (by have:=h.up_short hpa hq;omega) hq;rw[a7] at this;cases this
  cases hb:dF (dD S pa D at') i i with
  | false=>rfl
  | true =>
   obtain⟨j,j1,j2,j3⟩:=uE (by rw[hl];exact hi) hb;rw[hl] at j2;rcases xF hl hr hi j3 with g |⟨k,m,e,g1,g2⟩
   ·exact absurd g (h.no_ring hi j1 j2)
   ·cases m with
    | zero =>
     have J:D=i:=g2;have e3:k=j:=oaa;rw[J,e3] at g1;exact absurd g1 (h.no_ring hi j1 j2)
    | succ m =>
     obtain⟨z,z1,z2,z3⟩:=g2;have:z=pa:=oaa;subst this;rcases xF hl hr hpa z3 with g |⟨k', m', _,g3,_⟩
     ·exact absurd (g.trans g1) (Z _)
     ·exact absurd g3 (Z _)
