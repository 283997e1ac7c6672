/-
  x
-/
import Derived.Test.YtcbcpomacdngmaaGreatA6
import Derived.Lib.AppendZerosOnto
import Derived.Lib.SliceRun
import Derived.Lib.Walk
import Derived.BigQuiet
import Derived.Laws.StructEq
import Derived.Shelf.SlGeneric
import Derived.Shelf.Spec.SlicesInsertGrow
import Derived.Ground.Names2Prog
import Derived.Ground.SlgfProg
import Derived.Shelf.SlicesE.DeleteFunc
namespace Go.Proofs.YtcbcpomacdngmaaGreat
set_option maxRecDepth 100000
set_option maxHeartbeats 4000000
set_option linter.unusedVariables false
open Go.RowKit Go.Shelf Tryz
variable{X:Nat->Prop}{w w':World}{b g:Nat}{ks:List Int}{S:List Nd}{G:Nat->Value}
def mQ(S:List Nd)(D pa:Nat):Bool:=decide ((nd S D).h = -1) && (!decide ((pa:Int)=D) && !zbB S pa D)
theorem Ck(a:OA)(c:Nat)(S:List Nd)(D pa:Nat)(w:Wd)(hN:S.length<=9223372036854775807)(hc:D<S.length)(F:aD w a S) :
  yO 205 #[.agg #[.slice a S.length c],.int .i64 D,.int .i64 pa] w fun e w' => e=.returned (.bool (mQ S D pa))/\Below w.heap.size w w' := by
 unfold mQ;have J:=fun(W:Wd) (hW:aD W a S)=>PR a c S pa D W hN hW;have O:Hid _:=J;have T:Hid (aD w a S):=F;have a6:(D:Int)<(S.length:Int):=by omega
 obtain⟨b,o,rfl,c0,_,_,_,_,_,c6,_⟩:=F D hc;have a5:=yi _ _ c0;clear F J;generalize dF S pa D=U at *;generalize (nd S D).h=hh at *;generalize S.length=n at *;by_cases h1:hh = -1
 ·subst h1;by_cases E:(pa:Int)=D
  ·have e:decide ((pa:Int)=D)=true:=yI E;have h3:pa=D:=(by omega);subst h3;rw[e];simp only[decide_true,Bool.not_true,Bool.false_and,Bool.and_false]
   go_enter func205,ntmps205
   go_wp2
   go_ret;exact⟨rfl,(yv _ _).alloc (yr _) _⟩
  ·have e:decide ((pa:Int)=D)=false:=yH E;rw[e];have M:((pa:Int) ==(D:Int))=false:=beq_eq_false_iff_ne.2 E;have e2:((pa:Int) !=(D:Int))=true:=(by simp[bne,M]);have Z:¬ pa=D:=(by omega);simp only[decide_true,Bool.not_false,Bool.true_and];cases U
   all_goals
    go_enter func205,ntmps205
    go_wp2_with (go_at_call 128;refine(O _ (T.below ((yv _ _).alloc (yr _) _))).mono ?_;rintro e w1 ⟨rfl,I⟩)
    go_ret;exact⟨rfl,((yv _ _).alloc (yr _) _).trans (I.mono (by simp))⟩
 ·have e:decide (hh = -1)=false:=yH h1;have M:(hh == -1)=false:=beq_eq_false_iff_ne.2 h1;rw[e];simp only[Bool.false_and]
  go_enter func205,ntmps205
  go_wp2
  go_ret;exact⟨rfl,(yv _ _).alloc (yr _) _⟩
theorem Cm(ha:OA)(hc:Nat)(hs:List (Int × Int))(p u:Int)(w:Wd)(hL:hs.length<=9223372036854775807)(hH:aZ w ha hs) :
  yO 216 #[.slice ha hs.length hc,.agg #[.int .i64 p,.int .i64 u]] w fun e w' => ∃ r:Int,e=.returned (.int .i64 r)/\Below w.heap.size w w' /\((0<=r)↔(p,u) ∈ hs):=by
 have HH:Hid (aZ w ha hs):=hH;have IN:Hid (∀ k,k<hs.length->hs.getD k (0,0)=(p,u)->(p,u) ∈ hs):=fun k hk h=>by rw[<- h,aJ hs _ hk];exact List.getElem_mem hk
 have U:Hid ((∀ k,k<hs.length->hs.getD k (0,0)≠(p,u))->(p,u) ∉ hs):=fun h I=>by
  obtain⟨i,hi,e⟩:=List.getElem_of_mem I;exact h i hi (by rw[aJ hs _ hi];exact e)
 clear hH;generalize I:hs.length=m at *;have HM:Hid _:=I;clear I;generalize ((p,u) ∈ hs)=Q at *
 go_enter func216,ntmps216
 go_wp2
 go_loopg [8] m (fun g s8 wr=>∃ k:Nat,k<=m/\m-k<=g/\s8=.int .i64 k/\Below (w.heap.size+1) (w.alloc (.cells #[.int .i64 p,.int .i64 u] 61)) wr/\Hid (∀ i,i<k->hs.getD i (0,0)≠(p,u)))
 case atStart=>exact⟨0,by omega,by omega,rfl,yv _ _,(show Hid _ from fun i hi=>absurd hi (yB _))⟩
 case round =>
  obtain⟨k,hk,hg,rfl,hb,A⟩:=hrel;have D:Bl w wr:=((yv _ _).alloc (yr _) _).trans (hb.mono (by omega));have x0:wr.cell? ⟨w.heap.size,0,none⟩=some (.int .i64 p):=(hb.cell (by simp)).trans (by go_simp);have x1:wr.cell? ⟨w.heap.size,1,none⟩=some (.int .i64 u):=(hb.cell (by simp)).trans (by go_simp);by_cases E:k<m
  ·have a5:(k:Int)<(m:Int):=(by omega);obtain⟨b,o,rfl,c0,c1⟩:=(HH.below D) k (by rw[HM.o];exact E);generalize hy:hs.getD k (0,0)=y at *;obtain⟨J,M⟩:=y;dsimp only at c0 c1;have O:Hid _:=hy;clear hy;by_cases F:p=J
   ·by_cases e2:u=M
    ·subst F;subst e2;have Z:Hid _:=IN.o k E O.o
     go_wp2_with fail
     go_quiet (fail)
     go_wp2
     go_ret;exact⟨k,rfl,Below.drewNs D _,fun _=>Z.o,fun _=>by omega⟩
    ·have e3:(u == M)=false:=beq_eq_false_iff_ne.2 e2;have T:Hid ((J,M)≠(p,u)):=fun h=>e2 (by cases h;rfl);subst F
     go_wp2_with fail
     go_quiet (fail)
     go_wp2
     go_roundg (m-(k+1))
     case measure=>omega
     case rel =>
      refine⟨k+1,by omega,by omega,by go_num,Below.drewNs hb _,(show Hid _ from fun i hi=>?_)⟩;by_cases e:i=k
      ·rw[e,O.o];exact T.o
      ·exact A.o i (by omega)
   ·have e3:(p == J)=false:=beq_eq_false_iff_ne.2 F;have T:Hid ((J,M)≠(p,u)):=fun h=>F (by cases h;rfl)
    go_wp2_with fail
    go_quiet (fail)
    go_wp2
    go_roundg (m-(k+1))
    case measure=>omega
    case rel =>
     refine⟨k+1,by omega,by omega,by go_num,Below.drewNs hb _,(show Hid _ from fun i hi=>?_)⟩;by_cases e:i=k
     ·rw[e,O.o];exact T.o
     ·exact A.o i (by omega)
  ·have:k=m:=(by omega);subst this;have Z:Hid _:=U.o A.o
   go_wp2
   go_ret;exact⟨-1,rfl,D,fun h=>by omega,fun h=>absurd h Z.o⟩
def lays21_ren:Go.Shelf.Ren:=⟨fun|21=>218|27=>224|28=>225|35=>227|39=>228|n=>n,fun|22=>48|3=>3|4=>4|0=>0|n=>n,fun|n=>n⟩
theorem lays21:Go.Proofs.Lays2.n21 prog lays21_ren:={
 mixed:=by kernel_rfl
 f21:=func218.trans (congrArg some (by kernel_rfl))
 f27:=func224.trans (congrArg some (by kernel_rfl))
 f28:=func225.trans (congrArg some (by kernel_rfl))
 f35:=func227.trans (congrArg some (by kernel_rfl))
 f39:=func228.trans (congrArg some (by kernel_rfl))
 t0:=underlying0
 a0:=isAgg0
 z0:=sizeOf0
 v0:=zeroValue0
 t3:=underlying3
 a3:=isAgg3
 z3:=sizeOf3
 v3:=zeroValue3
 t4:=underlying4
 a4:=isAgg4
 z4:=sizeOf4
 v4:=zeroValue4
 t22:=underlying48
 a22:=isAgg48
 z22:=sizeOf48
 v22:=zeroValue48
 i3:=by kernel_rfl }
def ins(ks:List Int)(i:Nat)(c:Int):List Int:=ks.take i++c :: ks.drop i
theorem zY(ks:List Int)(i:Nat)(c:Int)(h:i<=ks.length):(ins ks i c).length=ks.length+1:=by
 simp[ins];omega
theorem zZ(ks:List Int)(i j:Nat)(c:Int)(h:i<=ks.length)(D:j<i):(ins ks i c).getD j 0=ks.getD j 0:=by
 simp[ins,List.getD,List.getElem?_append,D];rw[ye (by omega)]
theorem AC(ks:List Int)(i:Nat)(c:Int)(h:i<=ks.length):(ins ks i c).getD i 0=c:=by
 simp[ins,List.getD,Nat.min_eq_left h]
theorem QH(ks:List Int)(i j:Nat)(c:Int)(h:i<=ks.length)(D:i<j):(ins ks i c).getD j 0=ks.getD (j-1) 0:=by
 have e:j-i=(j-1-i)+1:=by omega
 simp[ins,List.getD,List.getElem?_append,Nat.min_eq_left h];rw[yd (by omega),e,List.getElem?_cons_succ,List.getElem?_drop,show i+(j-1-i)=j-1 by omega]
theorem pY{t n:Nat}:∀ (D:List Value) (o:Nat) (w:Wd) (F:Nat->Value),w.rowIs b t n F->(w.setCells b o D).rowIs b t n (fun j=>if o<=j/\j<o+D.length then D.getD (j-o) undef else F j)
 | [],o,w,F,h=>h.congr (fun j _=>by rw[yd];simp)
 | v :: r,o,w,F,h=>by
  refine(pY r (o+1) (w.setCell ⟨b,o,none⟩ v) _ (h.set o v)).congr (fun j _=>?_);by_cases e:j=o
  ·subst e;rw[yd (by omega),ye rfl,ye (by simp)];simp
  ·by_cases E:o+1<=j/\j<o+1+r.length
   ·rw[ye E,ye (by simp;omega),show j-o=(j-(o+1))+1 by omega];simp
   ·rw[yd E,yd e,yd (by simp;omega)]
theorem qA(D:X b):∀ (F:List Value) (o:Nat) (w:Wd),Off X w (w.setCells b o F)
 | [],_,w=>Off.refl _ w
 | v :: r,o,w=>by
  have step:Off X w (w.setCell ⟨b,o,none⟩ v):=⟨rfl,rfl,rfl,by simp,fun k _ E=>yx w ⟨b,o,none⟩ v k (fun e=>E (by rw[e];exact D))⟩;exact step.trans (qA D r (o+1) (w.setCell ⟨b,o,none⟩ v))
theorem Off.drew(h:Off X w w'):Off X w w'.drew:=⟨h.os,h.tape,h.output,h.size,h.block⟩
theorem Off.mono{Y:Nat->Prop}(h:Off X w w')(D:∀ k,k<w.heap.size->X k->Y k):Off Y w w' :=⟨h.os,h.tape,h.output,h.size,fun k E I=>h.block k E (fun F=>I (D k E F))⟩
def wZ(w:Wd)(kb:Nat)(l:List Int)(e:Ending)(w' : World):Prop :=
 ∃ D E,e=.returned (.slice (some ⟨D,0,none⟩) l.length E)/\l.length<=E/\(D=kb\/w.heap.size<=D)/\Off (fun b=>b=kb) w w' /\ ∃ G,w'.rowIs D 3 E G/\∀ j,j<l.length->G j=.int .i64 (l.getD j 0)
theorem IM{j:Nat}{v:Value}(h:(ks.map (Value.int .i64))[j]?=some v):j<ks.length/\v=.int .i64 (ks.getD j 0):=by
 obtain⟨hl,hv⟩:=List.getElem?_eq_some_iff.1 h;have D:j<ks.length:=by simpa using hl
 refine⟨D,?_⟩;rw[<- hv,List.getElem_map,aJ ks 0 D]
theorem Cn(kb L kc Z i:Nat)(ks:List Int)(E:Int)(w:Wd)(F:ks.length=L)(hi:i<L)(a6:kc=L)(a7:L<=1000)(G:Nat->Value)(hG:w.rowIs kb 3 kc G)(J:∀ j,j<L->G j=.int .i64 (ks.getD j 0))(hv:w.cell? ⟨Z,0,none⟩=some (.int .i64 E)) :
  yO 218 #[.slice (some ⟨kb,0,none⟩) L kc,.int .i64 i,.slice (some ⟨Z,0,none⟩) 1 1] w (wZ w kb (ins ks i E)):=by
 have h:=Any2.slices_Insert_int_grow (P:=prog) (ρ:=lays21_ren) lays21 kb 0 L kc i Z 0 1 1 (ks.map (Value.int .i64)) [.int .i64 E] w hi (by omega) (by omega) (by omega) (by omega) (by simpa using F) rfl
  (fun j v D=>by
   obtain⟨h1,rfl⟩:=IM D;rw[yD,hG.cell (by omega),J j (by omega)])
  (fun j v D=>by
   match j,D with
   | 0,D=>simp at D;subst D;simpa using hv)
  (fun v hv=>by simp at hv;obtain⟨y,_,rfl⟩:=hv;rfl) (fun v hv=>by simp at hv;subst hv;rfl)
 refine yj (show yO 218 _ _ _ from h) ?_;rintro e w' ⟨rfl,rfl⟩;have a5:=grownCap_ge w (L+1) kc (lays21_ren.t 3);have hl:=zY ks i E (by omega);generalize grownCap w (L+1) kc (lays21_ren.t 3)=cap at *;refine⟨w.heap.size,cap,by rw[hl,F],by omega,Or.inr (yr _),?_,?_⟩
 ·refine Off.mono (X:=fun b=>b=w.heap.size) ?_ (fun k hk e=>by omega);exact(((Off.of_below ((yv _ _).alloc (yr _) _)).drew.trans (qA (X:=fun b=>b=w.heap.size) rfl _ _ _)).drew).trans (qA (X:=fun b=>b=w.heap.size) rfl _ _ _)
 ·have hA:(((ks.map (Value.int .i64)).take i).toArray++Builtin.zeroCells (Value.int .i64 0).cells (L+1-i)++Builtin.zeroCells (Value.int .i64 0).cells (cap-(L+1))).size=cap:=by
   simp[size_zeroCells,Value.cells,F];omega
  have I:∀ j,j<i->(((ks.map (Value.int .i64)).take i).toArray++Builtin.zeroCells (Value.int .i64 0).cells (L+1-i)++Builtin.zeroCells (Value.int .i64 0).cells (cap-(L+1)))[j]?=some (.int .i64 (ks.getD j 0)):=fun j D=>by
   have O:j<ks.length:=(by omega);rw[Array.getElem?_append_left (by simp;omega),Array.getElem?_append_left (by simp;omega)];simp[D,O]
  generalize (((ks.map (Value.int .i64)).take i).toArray++Builtin.zeroCells (Value.int .i64 0).cells (L+1-i)++Builtin.zeroCells (Value.int .i64 0).cells (cap-(L+1)))=A at *;have hr:=World.rowIs_alloc w A 3 (fun j=>A[j]?.getD undef) (fun j D=>by simp[D]);rw[hA] at hr;have T:=pY [.int .i64 E] i _ _ hr.drew;have U:=pY ((ks.map (Value.int .i64)).drop i) (i+1) _ _ T.drew;refine⟨_,U,fun j D=>?_⟩;rw[hl,F] at D;have M:((ks.map (Value.int .i64)).drop i).length=L-i:=by simp[F]
  by_cases h1:i<j
  ·rw[ye (by rw[M];omega),QH ks i j E (by omega) h1,aJ ks 0 (by omega)];have:i+(j-(i+1))=j-1:=(by omega);simp[List.getD,this,show j-1<ks.length by omega]
  ·rw[yd (by omega)];by_cases h2:j=i
   ·subst h2;rw[ye (by simp),AC ks j E (by omega)];simp
   ·rw[yd (by simp;omega),zZ ks i j E (by omega) (by omega),I j (by omega)];rfl
theorem Co(kb L kc O:Nat)(ks:List Int)(E:Int)(w:Wd)(F:ks.length=L)(a5:kc=L)(a6:L<=1000)(G:Nat->Value)(hG:w.rowIs kb 3 kc G)(J:∀ j,j<L->G j=.int .i64 (ks.getD j 0))(hv:w.cell? ⟨O,0,none⟩=some (.int .i64 E)) :
  yO 218 #[.slice (some ⟨kb,0,none⟩) L kc,.int .i64 L,.slice (some ⟨O,0,none⟩) 1 1] w (wZ w kb (ins ks L E)):=by
 have h:=Any2.slices_Insert_int_end_grow (P:=prog) (ρ:=lays21_ren) lays21 (some ⟨kb,0,none⟩) L kc O 0 1 1 (ks.map (Value.int .i64)) [.int .i64 E] w (by omega) (by omega) (by omega) (by omega) (by simpa using F) rfl (fun h=>by cases h)
  (fun a ha j v D=>by
   cases ha;obtain⟨h1,rfl⟩:=IM D;rw[Addr.add_lit,yD,hG.cell (by omega),J j (by omega)])
  (fun j v D=>by
   match j,D with
   | 0,D=>simp at D;subst D;simpa using hv)
  (fun v hv=>by simp at hv;subst hv;rfl)
 refine yj (show yO 218 _ _ _ from h) ?_;rintro e w' ⟨rfl,rfl⟩;have T:=grownCap_ge w (L+1) kc (lays21_ren.t 3);have hl:=zY ks L E (by omega);generalize grownCap w (L+1) kc (lays21_ren.t 3)=cap at *;refine⟨w.heap.size,cap,by rw[hl,F],by omega,Or.inr (yr _),?_,?_⟩
 ·exact Off.of_below ((yv _ _).drew.alloc (yr _) _)
 ·have Z:((ks.map (Value.int .i64)++[Value.int .i64 E]).toArray++Builtin.zeroCells (Value.int .i64 0).cells (cap-(L+1))).size=cap:=by
   simp[size_zeroCells,Value.cells,F];omega
  have I:∀ j,j<L+1->((ks.map (Value.int .i64)++[Value.int .i64 E]).toArray++Builtin.zeroCells (Value.int .i64 0).cells (cap-(L+1)))[j]?=some (.int .i64 ((ins ks L E).getD j 0)):=fun j D=>by
   rw[Array.getElem?_append_left (by simp;omega)];by_cases e:j=L
   ·rw[e,AC ks L E (by omega),<- F];simp
   ·have M:j<ks.length:=(by omega);rw[zZ ks L j E (by omega) (by omega)];simp[List.getElem?_append,M]
  generalize ((ks.map (Value.int .i64)++[Value.int .i64 E]).toArray++Builtin.zeroCells (Value.int .i64 0).cells (cap-(L+1)))=A at *;have U:=World.rowIs_alloc w.drew A 3 (fun j=>A[j]?.getD undef) (fun j D=>by simp[D]);rw[Z] at U;refine⟨_,U,fun j D=>?_⟩;rw[hl,F] at D;rw[I j D];rfl
theorem Cq(kb L kc J:Nat)(ks:List Int)(E:Int)(w:Wd)(M:ks.length=L)(O:L+1<=kc)(T:kc<=1000000000)(G:Nat->Value)(F:w.rowIs kb 3 kc G)(I:∀ j,j<L->G j=.int .i64 (ks.getD j 0))(hv:w.cell? ⟨J,0,none⟩=some (.int .i64 E)) :
  yO 218 #[.slice (some ⟨kb,0,none⟩) L kc,.int .i64 L,.slice (some ⟨J,0,none⟩) 1 1] w (wZ w kb (ins ks L E)):=by
 have h:=Any2.slices_Insert_int_end_room (P:=prog) (ρ:=lays21_ren) lays21 kb 0 L kc J 0 1 1 [.int .i64 E] w (by omega) (by omega) (by omega) rfl
  (fun j D=>by rw[F.cell (by omega)];rfl) (fun j _=>F.frozen _)
  (fun j v D=>by
   match j,D with
   | 0,D=>simp at D;subst D;simpa using hv)
  (fun v hv=>by simp at hv;subst hv;rfl)
 refine yj (show yO 218 _ _ _ from h) ?_;rintro e w' ⟨rfl,rfl⟩;have hl:=zY ks L E (by omega);refine⟨kb,kc,by rw[hl,M],by omega,Or.inl rfl,qA (X:=fun b=>b=kb) rfl _ _ _,_,pY _ _ _ _ F,fun j D=>?_⟩;rw[hl,M] at D;by_cases e:j=L
 ·rw[ye (by simp;omega),e,AC ks L E (by omega)];simp
 ·rw[yd (by simp;omega),zZ ks L j E (by omega) (by omega),I j (by omega)]
theorem Cr(kb L kc F i:Nat)(ks:List Int)(E:Int)(w:Wd)(O:ks.length=L)(hi:i<L)(a6:L+1<=kc)(a7:kc<=1000000000)(G:Nat->Value)(I:w.rowIs kb 3 kc G)(J:∀ j,j<L->G j=.int .i64 (ks.getD j 0))(Z:F≠kb)(hv:w.heap[F]?=some (.cells #[.int .i64 E] 3 (0,0))) :
  yO 218 #[.slice (some ⟨kb,0,none⟩) L kc,.int .i64 i,.slice (some ⟨F,0,none⟩) 1 1] w (wZ w kb (ins ks i E)):=by
 have a5:w.cell? ⟨F,0,none⟩=some (.int .i64 E):=by simp[World.cell?,hv]
 have M:∀ o,w.frozen? ⟨F,o,none⟩=false:=fun o=>by simp[World.frozen?,hv]
 have U:w.shape? kb=some (3,kc):=by
  obtain⟨c,hc,hs,_⟩:=I;simp[World.shape?,hc,hs]
 have h:=Any2.slices_Insert_int_shift (P:=prog) (ρ:=lays21_ren) lays21 kb 0 L kc i F 0 1 1 (ks.map (Value.int .i64)) [.int .i64 E] w hi (by omega) (by omega) (by omega) Z (by simpa using O) rfl
  (fun j v D=>by
   obtain⟨h1,rfl⟩:=IM D;rw[yD,I.cell (by omega),J j (by omega)])
  (fun j D=>by rw[I.cell (by omega)];rfl) (fun j _=>I.frozen _)
  (fun j v D=>by
   match j,D with
   | 0,D=>simp at D;subst D;simpa using a5)
  (fun v hv=>by simp at hv;obtain⟨y,_,rfl⟩:=hv;rfl) (fun v hv=>by simp at hv;subst hv;rfl)
  3 3 1 kc (by simp[World.shape?,hv]) U (by omega) (M _) (M _)
 refine yj (show yO 218 _ _ _ from h) ?_;rintro e w' ⟨rfl,rfl⟩;have hl:=zY ks i E (by omega);refine⟨kb,kc,by rw[hl,O],by omega,Or.inl rfl,(Off.refl _ _).drew.trans ((qA (X:=fun b=>b=kb) rfl _ _ _).trans (qA (X:=fun b=>b=kb) rfl _ _ _)),_,pY _ _ _ _ (pY _ _ _ _ I.drew),fun j D=>?_⟩;rw[hl,O] at D;have T:((ks.map (Value.int .i64)).drop i).length=L-i:=by simp[O]
 by_cases h2:j=i
 ·subst h2;rw[ye (by simp),AC ks j E (by omega)];simp
 ·rw[yd (by simp;omega)];by_cases h1:i<j
  ·rw[ye (by rw[T];omega),QH ks i j E (by omega) h1,aJ ks 0 (by omega)];simp[List.getD];rw[show i+(j-(i+1))=j-1 by omega];simp[show j-1<ks.length by omega]
  ·rw[yd (by omega),zZ ks i j E (by omega) (by omega),J j (by omega)]
theorem Cs(kb L kc E i:Nat)(ks:List Int)(F:Int)(w:Wd)(M:ks.length=L)(hi:i<=L)(U:L<=kc)(Z:kc<=1000)(G:Nat->Value)(J:w.rowIs kb 3 kc G)(D:∀ j,j<L->G j=.int .i64 (ks.getD j 0))(T:E≠kb)(hv:w.heap[E]?=some (.cells #[.int .i64 F] 3 (0,0))) :
  yO 218 #[.slice (some ⟨kb,0,none⟩) L kc,.int .i64 i,.slice (some ⟨E,0,none⟩) 1 1] w (wZ w kb (ins ks i F)):=by
 have I:w.cell? ⟨E,0,none⟩=some (.int .i64 F):=by simp[World.cell?,hv]
 by_cases h1:i=L
 ·subst h1;by_cases O:kc=i
  ·exact Co kb i kc E ks F w M O (by omega) G J D I
  ·exact Cq kb i kc E ks F w M (by omega) (by omega) G J D I
 ·by_cases O:kc=L
  ·exact Cn kb L kc E i ks F w M (by omega) O (by omega) G J D I
  ·exact Cr kb L kc E i ks F w M (by omega) (by omega) (by omega) G J D T hv
theorem Ct{w:Wd}{F:Nat->Value}(D:w.rowIs g 57 (S.length*8) F)
  (h:∀ i,i<S.length->F (i*8)=.bool (nd S i).u/\F (i*8+1)=.int .i64 (nd S i).n/\F (i*8+2)=.int .i64 (nd S i).t/\F (i*8+3)=.int .i64 (nd S i).m/\F (i*8+4)=.int .i64 (nd S i).p/\(∃ ka kc,F (i*8+5)=.slice ka (nd S i).ks.length kc/\aG w ka (nd S i).ks)/\F (i*8+6)=.int .i64 (nd S i).h/\F (i*8+7)=.bool (nd S i).c) :
  aD w (some ⟨g,0,none⟩) S:=fun i hi=>by
 obtain⟨E,I,J,M,O,⟨ka,kc,T,hk⟩,U,Z⟩:=h i hi;refine⟨g,0,rfl,?_⟩;rw[yD];refine⟨?_,?_,?_,?_,?_,⟨ka,kc,?_,hk⟩,?_,?_⟩
 ·rw[D.cell (by omega),E]
 ·rw[D.cell (by omega),I]
 ·rw[D.cell (by omega),J]
 ·rw[D.cell (by omega),M]
 ·rw[D.cell (by omega),O]
 ·rw[D.cell (by omega),T]
 ·rw[D.cell (by omega),U]
 ·rw[D.cell (by omega),Z]
theorem qB{w:Wd}{kb kc:Nat}(D:w.rowIs kb 3 kc G)(hl:ks.length<=kc)(h:∀ j,j<ks.length->G j=.int .i64 (ks.getD j 0)):aG w (some ⟨kb,0,none⟩) ks:=fun j E =>
 ⟨kb,0,rfl,by rw[yD,D.cell (by omega),h j E]⟩
def rD(S:List Nd)(pa D i:Nat)(j:Nat):Nd :=
 if j=D then ⟨(nd S D).u,(nd S D).n,(nd S D).t,(nd S D).m,pa,(nd S D).ks,(nd S D).h,(nd S D).c⟩
 else if j=pa then ⟨(nd S pa).u,(nd S pa).n,(nd S pa).t,(nd S pa).m,(nd S pa).p,ins (nd S pa).ks i D,(nd S pa).h,(nd S pa).c⟩
 else nd S j
def dD(S:List Nd)(pa D i:Nat):List Nd:=(List.range S.length).map (rD S pa D i)
theorem qC(S:List Nd)(pa D i:Nat):(dD S pa D i).length=S.length:=by simp[dD]
theorem xA(S:List Nd)(pa D i j:Nat)(E:j<S.length):nd (dD S pa D i) j=rD S pa D i j:=by
 rw[eQ (by rw[qC];exact E)];simp[dD]
def atS(ks:List Int):List (Int × Int)->Int
 | []=>ks.length
 | h :: _=>idx ks h.1
theorem Cu{w w2:Wd}{B:Nat}{kb kc:Nat->Nat}(hO:Own w B g S kb kc S.length){W:Wd}(hb:Bl w W){pa E i D I:Nat}(hpa:pa<S.length)(hch:E<S.length)(b2:pa≠E)
  (hi:i<=(nd S pa).ks.length) (a6:D=kb pa\/W.heap.size<=D) (a7:Off (fun b=>b=kb pa) W w2)  (hG:w2.rowIs D 3 I G) (b1:(ins (nd S pa).ks i E).length<=I) (a8:∀ j,j<(ins (nd S pa).ks i E).length->G j=.int .i64 ((ins (nd S pa).ks i E).getD j 0)) :
  ∀ w3:World,(∀ b,g<=b->w3.heap[b]?=((w2.setCell ⟨g,pa*8+5,none⟩ (.slice (some ⟨D,0,none⟩) (ins (nd S pa).ks i E).length I)).setCell ⟨g,E*8+4,none⟩ (.int .i64 pa)).heap[b]?)->aD w3 (some ⟨g,0,none⟩) (dD S pa E i):=by
 intro w3 O;obtain⟨_,F,hF,hN,hg,hd⟩:=hO;have a9:=hF.lt;have hW:∀ b,b<w.heap.size->b≠kb pa->w2.heap[b]?=w.heap[b]?:=fun b h1 U=>(a7.block b (yC h1 hb.size) U).trans (hb.block b h1);have a5:g≠kb pa:=by have:=hg pa hpa;omega
 have Z:=(((hF.of_block (hW g a9 a5)).set (pa*8+5) (.slice (some ⟨D,0,none⟩) (ins (nd S pa).ks i E).length I)).set (E*8+4) (.int .i64 pa)).of_block (O g (yr _))
 have b0:D≠g:=by
  rcases a6 with h|h
  ·rw[h];exact fun e=>a5 e.symm
  ·have:=hb.size;omega
 have T:g<=D:=by
  rcases a6 with h|h
  ·rw[h];exact Nat.le_of_lt (hg pa hpa)
  ·have:=hb.size;omega
 rw[<- qC S pa E i] at Z;refine Ct Z (fun j J=>?_);rw[qC] at J;rw[xA S pa E i j J];obtain⟨e0,e1,e2,e3,e4,e5,e6,e7,e8,b3,G0,M,e9⟩:=hN j J;unfold rD;by_cases h1:j=E
 ·subst h1;rw[ye rfl]
  have hr:w3.rowIs (kb j) 3 (kc j) G0 :=
   (((M.of_block (hW (kb j) M.lt (fun e=>b2 (hd pa hpa j J e.symm)))).setOther (by have:=hg j J;simp;omega) _).setOther (by have:=hg j J;simp;omega) _).of_block (O (kb j) (Nat.le_of_lt (hg j J)))
  refine⟨?_,?_,?_,?_,?_,⟨some ⟨kb j,0,none⟩,kc j,?_,qB hr e8 e9⟩,?_,?_⟩
  all_goals dsimp only
  ·rw[yd (by omega),yd (by omega),e0]
  ·rw[yd (by omega),yd (by omega),e1]
  ·rw[yd (by omega),yd (by omega),e2]
  ·rw[yd (by omega),yd (by omega),e3]
  ·rw[ye rfl]
  ·rw[yd (by omega),yd (by omega),e5]
  ·rw[yd (by omega),yd (by omega),e6]
  ·rw[yd (by omega),yd (by omega),e7]
 ·rw[yd h1];by_cases U:j=pa
  ·subst U;rw[ye rfl];have hr:=((hG.setOther (a:=⟨g,j*8+5,none⟩) (by simp;omega) (.slice (some ⟨D,0,none⟩) (ins (nd S j).ks i E).length I)).setOther (a:=⟨g,E*8+4,none⟩) (by simp;omega) (.int .i64 j)).of_block (O D T);refine⟨?_,?_,?_,?_,?_,⟨some ⟨D,0,none⟩,I,?_,qB hr b1 a8⟩,?_,?_⟩
   all_goals dsimp only
   ·rw[yd (by omega),yd (by omega),e0]
   ·rw[yd (by omega),yd (by omega),e1]
   ·rw[yd (by omega),yd (by omega),e2]
   ·rw[yd (by omega),yd (by omega),e3]
   ·rw[yd (by omega),yd (by omega),e4]
   ·rw[yd (by omega),ye rfl]
   ·rw[yd (by omega),yd (by omega),e6]
   ·rw[yd (by omega),yd (by omega),e7]
  ·rw[yd U]
   have hr:w3.rowIs (kb j) 3 (kc j) G0 :=
    (((M.of_block (hW (kb j) M.lt (fun e=>U (hd j J pa hpa e)))).setOther (by have:=hg j J;simp;omega) _).setOther (by have:=hg j J;simp;omega) _).of_block (O (kb j) (Nat.le_of_lt (hg j J)))
   refine⟨?_,?_,?_,?_,?_,⟨some ⟨kb j,0,none⟩,kc j,?_,qB hr e8 e9⟩,?_,?_⟩
   all_goals
    rw[yd (by omega),yd (by omega)];assumption
theorem uA{a:Addr}(w:Wd)(D:X a.block)(v:Value):Off X w (w.setCell a v) :=
 ⟨rfl,rfl,rfl,by simp,fun k _ E=>yx w a v k (fun e=>E (by rw[e];exact D))⟩
theorem Off.frozen(h:Off X w w'){p:Addr}(D:p.block<w.heap.size)(E:¬ X p.block):w'.frozen? p=w.frozen? p:=by
 unfold World.frozen?;rw[h.block _ D E]
theorem Cv(g c N D:Nat)(w:Wd)(hch:D<N)(I:w.cell? ⟨g,D*8+4,none⟩=some (.int .i64 (-1))) :
  yO 186 #[.slice (some ⟨g,0,none⟩) N c,.int .i64 D] w fun e w' => e=.returned (.tuple #[])/\Below w.heap.size w w' := by
 have E:(D:Int)<(N:Int):=by omega
 have F:=yi _ _ I
 go_enter func186,ntmps186
 go_wp2
 exact yz (v:=.tuple #[]) (by simp[results,results186,go_sem]) rfl ⟨rfl,(yv _ _).alloc (yr _) _⟩
theorem Cw(B g c:Nat)(S:List Nd)(kb kc:Nat->Nat)(pa D at' : Nat)(ha:OA)(hc:Nat)(hs:List (Int × Int))(w:Wd)(hO:Own w B g S kb kc S.length)(hpa:pa<S.length)(hch:D<S.length)(d4:pa≠D)(b4:hs.length<=1)(hH:aZ w ha hs)(a9:atS (nd S pa).ks hs=at')(U:at' <=(nd S pa).ks.length) :
  yO 207 #[.slice (some ⟨g,0,none⟩) S.length c,.int .i64 pa,.int .i64 D,.slice ha hs.length hc] w fun e w' => e=.returned (.tuple #[])/\Off (fun b=>b=g\/b=kb pa) w w' /\ ∀ w3:World,(∀ b,g<=b->w3.heap[b]?=w'.heap[b]?)->aD w3 (some ⟨g,0,none⟩) (dD S pa D at'):=by
 have AF:Hid (∀ (W w2:Wd) (E J:Nat) (G' : Nat->Value),Bl w W->(E=kb pa\/W.heap.size<=E)->Off (fun b=>b=kb pa) W w2->w2.rowIs E 3 J G' ->(ins (nd S pa).ks at' D).length<=J->(∀ j,j<(ins (nd S pa).ks at' D).length->G' j=.int .i64 ((ins (nd S pa).ks at' D).getD j 0))->∀ w3:World,(∀ b,g<=b->w3.heap[b]?=((w2.setCell ⟨g,pa*8+5,none⟩ (.slice (some ⟨E,0,none⟩) (ins (nd S pa).ks at' D).length J)).setCell ⟨g,D*8+4,none⟩ (.int .i64 pa)).heap[b]?)->aD w3 (some ⟨g,0,none⟩) (dD S pa D at')):=fun W w2 E J G' h1 h2 h3 h4 h5 h6=>Cu hO h1 hpa hch d4 U h2 h3 h4 h5 h6;have HH:Hid (aZ w ha hs):=hH;obtain⟨hB,F,hF,Z,hg,hd⟩:=hO;obtain⟨e0,e1,e2,e3,e4,e5,e6,e7,e8,a7,G,hG,e9⟩:=Z pa hpa;obtain⟨f0,f1,f2,f3,f4,f5,f6,f7,f8,b9,G2,c6,f9⟩:=Z D hch;have M:=hF.lt;have c7:=hF.frozen;have q5:w.cell? ⟨g,pa*8+5,none⟩=some (.slice (some ⟨kb pa,0,none⟩) (nd S pa).ks.length (kc pa)):=by rw[hF.cell (by omega),e5]
 have q4:w.cell? ⟨g,D*8+4,none⟩=some (.int .i64 (nd S D).p):=by rw[hF.cell (by omega),f4]
 have c8:=hG.lt;have g6:=hg pa hpa;have dx:=fun(v:Int) (W:Wd) (hW:Bl w W)=>Ce (some ⟨kb pa,0,none⟩) (kc pa) (nd S pa).ks v W (by omega) ((qB hG e8 e9).below hW);have DX:Hid _:=dx;have di:=fun(W:Wd) (hW:Bl w W) (vb:Nat) (d5:vb≠kb pa) (hv:W.heap[vb]?=some (.cells #[.int .i64 (D:Int)] 3 (0,0)))=>Cs (kb pa) (nd S pa).ks.length (kc pa) vb at' (nd S pa).ks D W rfl U e8 a7 G (hG.of_block (hW.block _ hG.lt)) e9 d5 hv;have DI:Hid _:=di;have d9:(pa:Int)<(S.length:Int):=by omega
 have d7:(D:Int)<(S.length:Int):=by omega
 have H1:Hid (hs.length<=1):=b4;have b5:Hid _:=a9;have g0:(nd S pa).ks.length<=1000:=by omega
 clear e0 e1 e2 e3 e4 e5 e6 e7 e8 a7 hG e9 f0 f1 f2 f3 f4 f5 f6 f7 f8 b9 c6 f9 hF Z hd hg dx di hH a9;generalize hL:(nd S pa).ks.length=L at *;have HL:Hid _:=hL;clear hL;generalize hn:S.length=n at *;generalize hm:hs.length=m at *;have HM:Hid _:=hm;clear hn hm;have g8:m<=1:=b4
 go_enter func207,ntmps207
 go_wp2
 go_loopg [9,21] m (fun g1 s9 s21 wr=>∃ (k:Nat) (x:Int),k<=m/\m-k<=g1/\s21=.int .i64 k/\s9=.int .i64 x/\Below w.heap.size w wr/\Hid (x=atS (nd S pa).ks (hs.take k)))
 case atStart=>exact⟨0,L,by omega,by omega,rfl,rfl,yv _ _,(show _=_ by rw[<- HL.o];rfl)⟩
 case round =>
  obtain⟨k,x,hk,g5,rfl,rfl,hb,A⟩:=hrel;by_cases c9:k<m
  ·have b0:k=0:=(by omega);obtain⟨b,o,rfl,c0,c1⟩:=(HH.below hb) k (by rw[HM.o];exact c9);have d8:(k:Int)<(m:Int):=(by omega);have g4:=yi _ _ c0
   have TK:Hid (atS (nd S pa).ks (hs.take (k+1))=idx (nd S pa).ks (hs.getD k (0,0)).1):=by
    subst b0;show _=_
    obtain⟨h0,hr,rfl⟩:∃ h0 hr,hs=h0 :: hr:=by
     cases hs with
     | nil=>have:=HM.o;simp at this;omega
     | cons a r=>exact⟨a,r,rfl⟩
    rfl
   generalize (hs.getD k (0,0)).1=pv at *;generalize (hs.getD k (0,0)).2=uv at *;have d1:=fun o1=>DX.o pv (wr.alloc o1) (hb.alloc hb.size o1);generalize idx (nd S pa).ks pv=ix at *;clear b0
   go_wp2_with (go_at_call 217;refine(d1 _).mono ?_;rintro e w2 ⟨rfl,rfl⟩)
   go_roundg (m-(k+1))
   case measure=>omega
   case rel=>exact⟨k+1,ix,by omega,by omega,by go_num,rfl,hb.alloc hb.size _,TK.symm⟩
  ·have b3:k=m:=by omega
   have d6:x=(at' : Int):=by
    rw[A.o,b3,<- HM.o,List.take_length];exact b5.o
   subst b3;subst d6;have r5:=(hb.cell (by exact M)).trans q5;have r4:=(hb.cell (by exact M)).trans q4;have rf:=fun o=>(hb.frozen (by exact M)).trans (c7 o);have g7:kb pa<wr.heap.size:=yC c8 hb.size;have HV:Hid ((wr.alloc (.cells #[.int .i64 (D:Int)] 3)).heap[wr.heap.size]?=some (.cells #[.int .i64 (D:Int)] 3 (0,0))):=yN wr _;clear A
   have b6:Hid (∀ w2,Off (fun b=>b=kb pa) (wr.alloc (.cells #[.int .i64 (D:Int)] 3)) w2->w2.cell? ⟨g,pa*8+5,none⟩=some (.slice (some ⟨kb pa,0,none⟩) L (kc pa))/\(∀ v,(w2.setCell ⟨g,pa*8+5,none⟩ v).cell? ⟨g,D*8+4,none⟩=some (.int .i64 (nd S D).p))/\(∀ o,w2.frozen? ⟨g,o,none⟩=false)):=fun w2 h2=>by
    have a6:g<wr.heap.size:=yC M hb.size;have a5:=(yv _ wr).alloc (yr _) (.cells #[.int .i64 (D:Int)] 3);refine⟨?_,fun v=>?_,fun o=>?_⟩
    ·exact((h2.cell (by simp;omega) (by simp;omega)).trans (a5.cell (by exact a6))).trans r5
    ·rw[World.cell?_setCell_other _ _ _ _ (by simp)];exact((h2.cell (by simp;omega) (by simp;omega)).trans (a5.cell (by exact a6))).trans r4
    ·exact((h2.frozen (by simp;omega) (by simp;omega)).trans (a5.frozen (by exact a6))).trans (rf o)
   go_wp2_with (go_at_call 218;refine(DI _ (hb.alloc hb.size _) wr.heap.size (by omega) HV.o).mono ?_;rintro e w2 ⟨E,J,rfl,b2,b1,I,G', a8,T⟩;obtain⟨s5,s4,sf⟩:=b6.o w2 I;have b7:Hid _:=a8;have b8:Hid _:=T;have O:Hid _:=I;clear a8 T I)
   refine bodyPost_end (v:=.tuple #[]) (by simp[results,results207,go_sem]) rfl ⟨rfl,?_,?_⟩
   ·have h1:Off (fun b=>b=g\/b=kb pa) w w2:=(Off.of_below (hb.alloc hb.size _)).trans (O.mono (fun k _ h=>Or.inr h));exact(h1.trans (uA _ (Or.inl rfl) _)).trans (uA _ (Or.inl rfl) _)
   ·exact AF.o _ _ _ _ _ (hb.alloc hb.size _) b1 O.o b7.o b2 b8.o
def QJ(X:Nat->Prop)(K:Nat)(D:Array Value)(p:Int->Bool)(w:Wd):Prop :=
 ∀ (x:Int) (w1:Wd),Off X w w1->yO K (#[.int .i64 x] ++ D) w1 fun e w2=>e=.returned (.bool (p x))/\Below w1.heap.size w1 w2
def flt(p:Int->Bool)(ks:List Int):List Int:=ks.filter fun x=>!p x
theorem xB(p:Int->Bool)(ks:List Int)(j:Nat)(h:j<ks.length):flt p (ks.take (j+1))=flt p (ks.take j)++(if p (ks.getD j 0) then [] else [ks.getD j 0]):=by
 unfold flt;rw[List.take_succ_eq_append_getElem h,List.filter_append,aJ ks 0 h]
 cases hp:p ks[j] <;> simp[hp]
theorem AJ(p:Int->Bool)(ks:List Int)(h:∀ i,i<ks.length->p (ks.getD i 0)=false):flt p ks=ks:=by
 unfold flt;rw[List.filter_eq_self];intro x D;obtain⟨i,hi,rfl⟩:=List.getElem_of_mem D;have:=h i hi;rw[aJ ks 0 hi] at this;simp[this]
theorem IP(p:Int->Bool)(ks:List Int):(flt p ks).length<=ks.length:=List.length_filter_le _ _
def IQ(w:Wd)(kb cap:Nat)(l:List Int)(e:Ending)(w' : World):Prop :=
 e=.returned (.slice (some ⟨kb,0,none⟩) l.length cap)/\Off (fun b=>b=kb) w w' /\ ∃ G,w'.rowIs kb 3 cap G/\∀ j,j<l.length->G j=.int .i64 (l.getD j 0)
theorem Cx(K:Nat)(I:Array Value)(p:Int->Bool)(kb L cap:Nat)(ks:List Int)(G:Nat->Value)(w:Wd)(hL:ks.length=L)(hc:L<=cap)(d5:cap<=1000000000)(hG:w.rowIs kb 3 cap G)(a7:∀ j,j<L->G j=.int .i64 (ks.getD j 0))
  (eg:∀ args w,(callFunc K args).run prog w=.ok (.enter K args) w) (hT:QJ (fun b=>b=kb) K I p w) :
  yO 197 #[.slice (some ⟨kb,0,none⟩) L cap,.func (.func K) #[] I] w (IQ w kb cap (flt p ks)):=by
 have di:=OZ K I p (some ⟨kb,0,none⟩) cap ks w (by omega) (qB hG (by omega) (by rw[hL];exact a7)) eg (fun x w1 hb=>hT x w1 (Off.of_below hb));rw[hL] at di;have HG:Hid (w.rowIs kb 3 cap G):=hG;have a6:Hid _:=a7;have HT:Hid (QJ (fun b=>b=kb) K I p w):=hT;have T:Hid _:=hL;have b2:=hG.lt;clear hG a7 hT hL
 go_enter func197,ntmps197
 go_wp2_with fail
 refine di.mono ?_;rintro e w1 ⟨r,rfl,M,hr⟩;clear di;rcases hr with ⟨rfl,a5⟩ |⟨k,hk,rfl,hp,hf⟩
 ·have a9:=AJ p ks (by rw[T.o];exact a5);have E:Hid _:=a9;clear a5 a9
  go_wp2
  go_ret;refine⟨by rw[E.o,T.o];rfl,Off.of_below M,G,HG.of_block (M.block kb b2),fun j hj=>?_⟩;rw[E.o] at hj |-;exact a6.o j (by rw[<- T.o];exact hj)
 ·have d4:((k:Int) == -1)=false:=beq_eq_false_iff_ne.2 (by omega)
  have F0:Hid (flt p (ks.take (k+1))=ks.take k):=by
   show _=_;rw[xB p ks k (by rw[T.o];exact hk),hp,ye rfl,List.append_nil];refine AJ p _ (fun i hi=>?_);rw[List.length_take] at hi;have b3:=T.o;have h1:=hf i (by omega);rw[aJ ks 0 (by omega)] at h1;rw[aJ (ks.take k) 0 (by rw[List.length_take];omega),List.getElem_take];exact h1
  have a8:Hid (w1.rowIs kb 3 cap G):=HG.of_block (M.block kb b2)
  have FI:Hid (∀ t,t<k->G t=.int .i64 ((flt p (ks.take (k+1))).getD t 0)):=fun t O=>by
   have b3:=T.o;rw[F0.o,a6.o t (by omega),aJ ks 0 (by omega),aJ (ks.take k) 0 (by rw[List.length_take];omega),List.getElem_take]
  have FL:Hid ((flt p (ks.take (k+1))).length=k):=by
   have b3:=T.o;show _=_;rw[F0.o,List.length_take];omega
  have O1:Hid (Off (fun b=>b=kb) w w1):=Off.of_below M;clear hp hf M
  go_wp2
  go_loopg [5,6] L (fun g1 s5 s6 wr=>∃ (i j:Nat) (G2:Nat->Value),i<j/\j<=L/\L-j<=g1/\s5=.int .i64 i/\s6=.int .i64 j/\Hid (Off (fun b=>b=kb) w wr)/\Hid (wr.rowIs kb 3 cap G2)/\Hid ((flt p (ks.take j)).length=i)/\Hid (∀ t,t<i->G2 t=.int .i64 ((flt p (ks.take j)).getD t 0))/\Hid (∀ t,j<=t->t<L->G2 t=.int .i64 (ks.getD t 0)))
  case atStart=>exact⟨k,k+1,G,by omega,by omega,by omega,rfl,by go_num,O1,a8,FL,FI,(show Hid _ from fun t _ O=>a6.o t O)⟩
  case round =>
   clear a8 FI FL O1;obtain⟨i,j,G2,c8,c9,b9,rfl,rfl,O2,R2,L2,I2,J2⟩:=hrel;have U:kb<wr.heap.size:=R2.lt;have b0:=R2.frozen;by_cases b4:j<L
   ·have b6:(j:Int)<(L:Int):=(by omega);have cj:=R2.cell (i:=j) (by omega);rw[J2.o j (yr _) b4] at cj;have ci:=R2.cell (i:=i) (by omega);have D:=HT.o (ks.getD j 0) wr O2.o;have Z:=xB p ks j (by rw[T.o];exact b4);generalize hy:ks.getD j 0=y at *;have HY:Hid _:=hy;clear hy
    cases hq:p y with
    | true =>
     rw[hq] at D Z;rw[ye rfl,List.append_nil] at Z;have J:Hid _:=Z;clear Z
     go_wp2_with (go_at_fn K;refine D.mono ?_;rintro e w2 ⟨rfl,F⟩)
     go_roundg (L-(j+1))
     case measure=>omega
     case rel=>exact⟨i,j+1,G2,by omega,by omega,by omega,rfl,by go_num,O2.trans (Off.of_below F),R2.of_block (F.block kb U),(show _=_ by rw[J.o];exact L2.o),(show Hid _ from fun t O=>by rw[J.o];exact I2.o t O),(show Hid _ from fun t h1 h2=>J2.o t (by omega) h2)⟩
    | false =>
     rw[hq] at D Z;rw[yd (by simp)] at Z;have J:Hid _:=Z;clear Z
     go_wp2_with (go_at_fn K;refine D.mono ?_;rintro e w2 ⟨rfl,F⟩;have b7:=(F.cell (by exact U)).trans ci;have b5:=fun o=>(F.frozen (by exact U)).trans (b0 o))
     go_roundg (L-(j+1))
     case measure=>omega
     case rel =>
      refine⟨i+1,j+1,_,by omega,by omega,by omega,by go_num,by go_num,(O2.trans (Off.of_below F)).trans (uA (X:=fun b=>b=kb) _ rfl _),(R2.of_block (F.block kb U)).set i (.int .i64 y),(show _=_ by rw[J.o,List.length_append,L2.o];rfl),(show Hid _ from fun t O=>?_),(show Hid _ from fun t h1 h2=>?_)⟩
      ·rw[J.o];by_cases e:t=i
       ·subst e;rw[ye rfl];simp[List.getD,L2.o]
       ·rw[yd e,I2.o t (by omega)];simp[List.getD,List.getElem?_append,L2.o,show t<i by omega]
      ·rw[yd (by omega)];exact J2.o t (by omega) h2
   ·have b1:j=L:=(by omega);subst b1;have c7:(i:Int)<=(cap:Int):=(by omega);have c6:(i:Int)<=(j:Int):=by omega
    have EF:Hid (flt p (ks.take j)=flt p ks):=by
     show _=_;rw[<- T.o,List.take_length]
    have b8:∀ ty,(Builtin.clear_ #[48] ty #[.slice (some ⟨kb,i,none⟩) (j-i) (cap-i)]).run prog wr=.ok (.tuple #[]) (wr.setCells kb i (List.replicate (j-i) (.int .i64 0))):=fun ty=>Lib.run_clear_slice wr 48 3 ty (.int .i64 0) underlying48 zeroValue3 rfl rfl kb i (j-i) (cap-i) (by omega) (fun t O=>by rw[R2.cell (by omega)];rfl) (fun t O=>b0 _)
    go_wp2
    go_ret;refine⟨?_,O2.trans (qA (X:=fun b=>b=kb) rfl _ _ _),_,pY _ _ _ _ R2.o,fun t O=>?_⟩
    ·rw[<- EF.o,L2.o];rfl
    ·rw[<- EF.o,L2.o] at O;rw[yd (by omega),I2.o t O,EF.o]
