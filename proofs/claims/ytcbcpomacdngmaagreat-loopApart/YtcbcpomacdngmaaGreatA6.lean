/-
  x
-/
import Derived.Test.YtcbcpomacdngmaaGreatA5
import Derived.Lib.AppendZerosOnto
import Derived.Lib.SliceRun
import Derived.Lib.Walk
import Derived.BigQuiet
import Derived.Laws.StructEq
import Derived.Shelf.SlGeneric
import Derived.Shelf.Spec.SlicesInsertGrow
import Derived.Ground.Names2Prog
import Derived.Ground.SlgfProg
import Derived.Shelf.SlicesE.DeleteFunc
namespace Go.Proofs.YtcbcpomacdngmaaGreat
set_option maxRecDepth 100000
set_option maxHeartbeats 4000000
set_option linter.unusedVariables false
open Go.RowKit Go.Shelf Tryz
variable{S:List Nd}{X:Nat->Prop}{w w':World}{p g i f k:Nat}{ks:List Int}{G:Nat->Value}
def mQ(S:List Nd)(D pa:Nat):Bool:=decide ((nd S D).h = -1) && (!decide ((pa:Int)=D) && !dF S pa D)
theorem Cn(a:OA)(c:Nat)(S:List Nd)(D pa:Nat)(w:Wd)(hN:S.length<=9223372036854775807)(hc:D<S.length)(F:aD w a S) :
  yO 205 #[.agg #[.slice a S.length c],.int .i64 D,.int .i64 pa] w fun e w' => e=.returned (.bool (mQ S D pa))/\Below w.heap.size w w' := by
 unfold mQ;have J:=fun(W:Wd) (hW:aD W a S)=>PT a c S pa D W hN hW;have O:Hid _:=J;have T:Hid (aD w a S):=F;have a6:(D:Int)<(S.length:Int):=oaa
 obtain⟨b,o,rfl,c0,_,_,_,_,_,c6,_⟩:=F D hc;have a5:=yi _ _ c0;clear F J;generalize dF S pa D=U at *;generalize (nd S D).h=hh at *;generalize S.length=n at *;by_cases h1:hh = -1
 ·subst h1;by_cases E:(pa:Int)=D
  ·have e:decide ((pa:Int)=D)=true:=yI E;have h3:pa=D:=oaa;subst h3;rw[e];simp only[decide_true,Bool.not_true,Bool.false_and,Bool.and_false]
   go_enter func205,ntmps205
   go_wp2
   go_ret;exact⟨rfl,(yv _ _).alloc (yr _) _⟩
  ·have e:decide ((pa:Int)=D)=false:=yH E;rw[e];have M:((pa:Int) ==(D:Int))=false:=beq_eq_false_iff_ne.2 E;have e2:((pa:Int) !=(D:Int))=true:=(by simp[bne,M]);have Z:¬ pa=D:=oaa;simp only[decide_true,Bool.not_false,Bool.true_and];cases U
   all_goals
    go_enter func205,ntmps205
    go_wp2_with (go_at_call 128;refine(O _ (T.below ((yv _ _).alloc (yr _) _))).mono ?_;rintro e w1 ⟨rfl,I⟩)
    go_ret;exact⟨rfl,((yv _ _).alloc (yr _) _).trans (I.mono oac)⟩
 ·have e:decide (hh = -1)=false:=yH h1;have M:(hh == -1)=false:=beq_eq_false_iff_ne.2 h1;rw[e];simp only[Bool.false_and]
  go_enter func205,ntmps205
  go_wp2
  go_ret;exact⟨rfl,(yv _ _).alloc (yr _) _⟩
theorem Co(ha:OA)(hc:Nat)(hs:List (Int × Int))(p u:Int)(w:Wd)(hL:hs.length<=9223372036854775807)(hH:aZ w ha hs) :
  yO 216 #[.slice ha hs.length hc,.agg #[.int .i64 p,.int .i64 u]] w fun e w' => ∃ r:Int,e=.returned (.int .i64 r)/\Below w.heap.size w w' /\((0<=r)↔(p,u) ∈ hs):=by
 have HH:Hid (aZ w ha hs):=hH;have IN:Hid (∀ k,k<hs.length->hs.getD k (0,0)=(p,u)->(p,u) ∈ hs):=fun k hk h=>by rw[<- h,aJ hs _ hk];exact List.getElem_mem hk
 have U:Hid ((∀ k,k<hs.length->hs.getD k (0,0)≠(p,u))->(p,u) ∉ hs):=fun h I=>by
  obtain⟨i,hi,e⟩:=List.getElem_of_mem I;exact h i hi (by rw[aJ hs _ hi];exact e)
 clear hH;generalize I:hs.length=m at *;have HM:Hid _:=I;clear I;generalize ((p,u) ∈ hs)=Q at *
 go_enter func216,ntmps216
 go_wp2
 go_loopg [8] m (fun g s8 wr=>∃ k:Nat,k<=m/\m-k<=g/\s8=.int .i64 k/\Below (w.heap.size+1) (w.alloc (.cells #[.int .i64 p,.int .i64 u] 61)) wr/\Hid (∀ i,i<k->hs.getD i (0,0)≠(p,u)))
 case atStart=>exact⟨0,oaa,oaa,rfl,yv _ _,(show Hid _ from fun i hi=>absurd hi (yB _))⟩
 case round =>
  obtain⟨k,hk,hg,rfl,hb,A⟩:=hrel;have D:Bl w wr:=((yv _ _).alloc (yr _) _).trans (hb.mono oaa);have x0:wr.cell? ⟨w.heap.size,0,none⟩=some (.int .i64 p):=(hb.cell oac).trans oaf;have x1:wr.cell? ⟨w.heap.size,1,none⟩=some (.int .i64 u):=(hb.cell oac).trans oaf;by_cases E:k<m
  ·have a5:(k:Int)<(m:Int):=oaa;obtain⟨b,o,rfl,c0,c1⟩:=(HH.below D) k (by rw[HM.out];exact E);generalize hy:hs.getD k (0,0)=y at *;obtain⟨J,M⟩:=y;dsimp only at c0 c1;have O:Hid _:=hy;clear hy;by_cases F:p=J
   ·by_cases e2:u=M
    ·subst F;subst e2;have Z:Hid _:=IN.out k E O.out
     go_wp2_with fail
     go_quiet (fail)
     go_wp2
     go_ret;exact⟨k,rfl,Below.drewNs D _,fun _=>Z.out,fun _=>oaa⟩
    ·have e3:(u == M)=false:=beq_eq_false_iff_ne.2 e2;have T:Hid ((J,M)≠(p,u)):=fun h=>e2 (by cases h;rfl);subst F
     go_wp2_with fail
     go_quiet (fail)
     go_wp2
     go_roundg (m-(k+1))
     case measure=>omega
     case rel =>
      refine⟨k+1,oaa,oaa,by go_num,Below.drewNs hb _,(show Hid _ from fun i hi=>?_)⟩;by_cases e:i=k
      ·rw[e,O.out];exact T.out
      ·exact A.out i oaa
   ·have e3:(p == J)=false:=beq_eq_false_iff_ne.2 F;have T:Hid ((J,M)≠(p,u)):=fun h=>F (by cases h;rfl)
    go_wp2_with fail
    go_quiet (fail)
    go_wp2
    go_roundg (m-(k+1))
    case measure=>omega
    case rel =>
     refine⟨k+1,oaa,oaa,by go_num,Below.drewNs hb _,(show Hid _ from fun i hi=>?_)⟩;by_cases e:i=k
     ·rw[e,O.out];exact T.out
     ·exact A.out i oaa
  ·have:k=m:=oaa;subst this;have Z:Hid _:=U.out A.out
   go_wp2
   go_ret;exact⟨-1,rfl,D,fun h=>oaa,fun h=>absurd h Z.out⟩
def lays21_ren:Go.Shelf.Ren:=⟨fun|21=>218|27=>224|28=>225|35=>227|39=>228|n=>n,fun|22=>48|3=>3|4=>4|0=>0|n=>n,fun|n=>n⟩
theorem lays21:Go.Proofs.Lays2.n21 prog lays21_ren:={
 mixed:=oad
 f21:=func218.trans (congrArg some oad)
 f27:=func224.trans (congrArg some oad)
 f28:=func225.trans (congrArg some oad)
 f35:=func227.trans (congrArg some oad)
 f39:=func228.trans (congrArg some oad)
 t0:=underlying0
 a0:=isAgg0
 z0:=sizeOf0
 v0:=zeroValue0
 t3:=underlying3
 a3:=isAgg3
 z3:=sizeOf3
 v3:=zeroValue3
 t4:=underlying4
 a4:=isAgg4
 z4:=sizeOf4
 v4:=zeroValue4
 t22:=underlying48
 a22:=isAgg48
 z22:=sizeOf48
 v22:=zeroValue48
 i3:=by kernel_rfl }
def ins(ks:List Int)(i:Nat)(c:Int):List Int:=ks.take i++c :: ks.drop i
theorem zY(ks:List Int)(i:Nat)(c:Int)(h:i<=ks.length):(ins ks i c).length=ks.length+1:=by
 simp[ins];omega
theorem zZ(ks:List Int)(i j:Nat)(c:Int)(h:i<=ks.length)(D:j<i):(ins ks i c).getD j 0=ks.getD j 0:=by
 simp[ins,List.getD,List.getElem?_append,D];rw[ye oaa]
theorem AC(ks:List Int)(i:Nat)(c:Int)(h:i<=ks.length):(ins ks i c).getD i 0=c:=by
 simp[ins,List.getD,Nat.min_eq_left h]
theorem QJ(ks:List Int)(i j:Nat)(c:Int)(h:i<=ks.length)(D:i<j):(ins ks i c).getD j 0=ks.getD (j-1) 0:=by
 have e:j-i=(j-1-i)+1:=oaa
 simp[ins,List.getD,List.getElem?_append,Nat.min_eq_left h];rw[yd oaa,e,List.getElem?_cons_succ,List.getElem?_drop,show i+(j-1-i)=j-1 by omega]
theorem pY{b t n:Nat}:∀ (D:List Value) (o:Nat) (w:Wd) (F:Nat->Value),w.rowIs b t n F->(w.setCells b o D).rowIs b t n (fun j=>if o<=j/\j<o+D.length then D.getD (j-o) undef else F j)
 | [],o,w,F,h=>h.congr (fun j _=>by rw[yd];simp)
 | v :: r,o,w,F,h=>by
  refine(pY r (o+1) (w.setCell ⟨b,o,none⟩ v) _ (h.set o v)).congr (fun j _=>?_);by_cases e:j=o
  ·subst e;rw[yd oaa,ye rfl,ye oac];simp
  ·by_cases E:o+1<=j/\j<o+1+r.length
   ·rw[ye E,ye oab,show j-o=(j-(o+1))+1 by omega];simp
   ·rw[yd E,yd e,yd oab]
theorem qA{X:Nat->Prop}{b:Nat}(D:X b):∀ (F:List Value) (o:Nat) (w:Wd),Off X w (w.setCells b o F)
 | [],_,w=>Off.refl _ w
 | v :: r,o,w=>by
  have step:Off X w (w.setCell ⟨b,o,none⟩ v):=⟨rfl,rfl,rfl,oac,fun k _ E=>yx w ⟨b,o,none⟩ v k (fun e=>E (by rw[e];exact D))⟩;exact step.trans (qA D r (o+1) (w.setCell ⟨b,o,none⟩ v))
theorem Off.drew(h:Off X w w'):Off X w w'.drew:=⟨h.os,h.tape,h.output,h.size,h.block⟩
theorem Off.mono{Y:Nat->Prop}(h:Off X w w')(D:∀ k,k<w.heap.size->X k->Y k):Off Y w w' :=⟨h.os,h.tape,h.output,h.size,fun k E I=>h.block k E (fun F=>I (D k E F))⟩
def wZ(w:Wd)(kb:Nat)(l:List Int)(e:Ending)(w' : World):Prop :=
 ∃ D E,e=.returned (.slice (some ⟨D,0,none⟩) l.length E)/\l.length<=E/\(D=kb\/w.heap.size<=D)/\Off (fun b=>b=kb) w w' /\ ∃ G,w'.rowIs D 3 E G/\∀ j,j<l.length->G j=.int .i64 (l.getD j 0)
theorem IM{j:Nat}{v:Value}(h:(ks.map (Value.int .i64))[j]?=some v):j<ks.length/\v=.int .i64 (ks.getD j 0):=by
 obtain⟨hl,hv⟩:=List.getElem?_eq_some_iff.1 h;have D:j<ks.length:=by simpa using hl
 refine⟨D,?_⟩;rw[<- hv,List.getElem_map,aJ ks 0 D]
theorem Cq(kb L kc Z i:Nat)(ks:List Int)(E:Int)(w:Wd)(F:ks.length=L)(hi:i<L)(a6:kc=L)(a7:L<=1000)(G:Nat->Value)(hG:w.rowIs kb 3 kc G)(J:∀ j,j<L->G j=.int .i64 (ks.getD j 0))(hv:w.cell? ⟨Z,0,none⟩=some (.int .i64 E)) :
  yO 218 #[.slice (some ⟨kb,0,none⟩) L kc,.int .i64 i,.slice (some ⟨Z,0,none⟩) 1 1] w (wZ w kb (ins ks i E)):=by
 have h:=Any2.slices_Insert_int_grow (P:=prog) (ρ:=lays21_ren) lays21 kb 0 L kc i Z 0 1 1 (ks.map (Value.int .i64)) [.int .i64 E] w hi oaa oaa oaa oaa (by simpa using F) rfl
  (fun j v D=>by
   obtain⟨h1,rfl⟩:=IM D;rw[yD,hG.cell oaa,J j oaa])
  (fun j v D=>by
   match j,D with
   | 0,D=>simp at D;subst D;simpa using hv)
  (fun v hv=>by simp at hv;obtain⟨y,_,rfl⟩:=hv;rfl) (fun v hv=>by simp at hv;subst hv;rfl)
 refine yj (show yO 218 _ _ _ from h) ?_;rintro e w' ⟨rfl,rfl⟩;have a5:=grownCap_ge w (L+1) kc (lays21_ren.t 3);have hl:=zY ks i E oaa;generalize grownCap w (L+1) kc (lays21_ren.t 3)=cap at *;refine⟨w.heap.size,cap,by rw[hl,F],oaa,Or.inr (yr _),?_,?_⟩
 ·refine Off.mono (X:=fun b=>b=w.heap.size) ?_ (fun k hk e=>oaa);exact(((Off.of_below ((yv _ _).alloc (yr _) _)).drew.trans (qA (X:=fun b=>b=w.heap.size) rfl _ _ _)).drew).trans (qA (X:=fun b=>b=w.heap.size) rfl _ _ _)
 ·have hA:(((ks.map (Value.int .i64)).take i).toArray++Builtin.zeroCells (Value.int .i64 0).cells (L+1-i)++Builtin.zeroCells (Value.int .i64 0).cells (cap-(L+1))).size=cap:=by
   simp[size_zeroCells,Value.cells,F];omega
  have I:∀ j,j<i->(((ks.map (Value.int .i64)).take i).toArray++Builtin.zeroCells (Value.int .i64 0).cells (L+1-i)++Builtin.zeroCells (Value.int .i64 0).cells (cap-(L+1)))[j]?=some (.int .i64 (ks.getD j 0)):=fun j D=>by
   have O:j<ks.length:=oaa;rw[Array.getElem?_append_left oab,Array.getElem?_append_left oab];simp[D,O]
  generalize (((ks.map (Value.int .i64)).take i).toArray++Builtin.zeroCells (Value.int .i64 0).cells (L+1-i)++Builtin.zeroCells (Value.int .i64 0).cells (cap-(L+1)))=A at *;have hr:=World.rowIs_alloc w A 3 (fun j=>A[j]?.getD undef) (fun j D=>by simp[D]);rw[hA] at hr;have T:=pY [.int .i64 E] i _ _ hr.drew;have U:=pY ((ks.map (Value.int .i64)).drop i) (i+1) _ _ T.drew;refine⟨_,U,fun j D=>?_⟩;rw[hl,F] at D;have M:((ks.map (Value.int .i64)).drop i).length=L-i:=by simp[F]
  by_cases h1:i<j
  ·rw[ye (by rw[M];omega),QJ ks i j E oaa h1,aJ ks 0 oaa];have:i+(j-(i+1))=j-1:=oaa;simp[List.getD,this,show j-1<ks.length by omega]
  ·rw[yd oaa];by_cases h2:j=i
   ·subst h2;rw[ye oac,AC ks j E oaa];simp
   ·rw[yd oab,zZ ks i j E oaa oaa,I j oaa];rfl
theorem Cr(kb L kc O:Nat)(ks:List Int)(E:Int)(w:Wd)(F:ks.length=L)(a5:kc=L)(a6:L<=1000)(G:Nat->Value)(hG:w.rowIs kb 3 kc G)(J:∀ j,j<L->G j=.int .i64 (ks.getD j 0))(hv:w.cell? ⟨O,0,none⟩=some (.int .i64 E)) :
  yO 218 #[.slice (some ⟨kb,0,none⟩) L kc,.int .i64 L,.slice (some ⟨O,0,none⟩) 1 1] w (wZ w kb (ins ks L E)):=by
 have h:=Any2.slices_Insert_int_end_grow (P:=prog) (ρ:=lays21_ren) lays21 (some ⟨kb,0,none⟩) L kc O 0 1 1 (ks.map (Value.int .i64)) [.int .i64 E] w oaa oaa oaa oaa (by simpa using F) rfl (fun h=>oah)
  (fun a ha j v D=>by
   cases ha;obtain⟨h1,rfl⟩:=IM D;rw[Addr.add_lit,yD,hG.cell oaa,J j oaa])
  (fun j v D=>by
   match j,D with
   | 0,D=>simp at D;subst D;simpa using hv)
  (fun v hv=>by simp at hv;subst hv;rfl)
 refine yj (show yO 218 _ _ _ from h) ?_;rintro e w' ⟨rfl,rfl⟩;have T:=grownCap_ge w (L+1) kc (lays21_ren.t 3);have hl:=zY ks L E oaa;generalize grownCap w (L+1) kc (lays21_ren.t 3)=cap at *;refine⟨w.heap.size,cap,by rw[hl,F],oaa,Or.inr (yr _),?_,?_⟩
 ·exact Off.of_below ((yv _ _).drew.alloc (yr _) _)
 ·have Z:((ks.map (Value.int .i64)++[Value.int .i64 E]).toArray++Builtin.zeroCells (Value.int .i64 0).cells (cap-(L+1))).size=cap:=by
   simp[size_zeroCells,Value.cells,F];omega
  have I:∀ j,j<L+1->((ks.map (Value.int .i64)++[Value.int .i64 E]).toArray++Builtin.zeroCells (Value.int .i64 0).cells (cap-(L+1)))[j]?=some (.int .i64 ((ins ks L E).getD j 0)):=fun j D=>by
   rw[Array.getElem?_append_left oab];by_cases e:j=L
   ·rw[e,AC ks L E oaa,<- F];simp
   ·have M:j<ks.length:=oaa;rw[zZ ks L j E oaa oaa];simp[List.getElem?_append,M]
  generalize ((ks.map (Value.int .i64)++[Value.int .i64 E]).toArray++Builtin.zeroCells (Value.int .i64 0).cells (cap-(L+1)))=A at *;have U:=World.rowIs_alloc w.drew A 3 (fun j=>A[j]?.getD undef) (fun j D=>by simp[D]);rw[Z] at U;refine⟨_,U,fun j D=>?_⟩;rw[hl,F] at D;rw[I j D];rfl
theorem Cs(kb L kc J:Nat)(ks:List Int)(E:Int)(w:Wd)(M:ks.length=L)(O:L+1<=kc)(T:kc<=1000000000)(G:Nat->Value)(F:w.rowIs kb 3 kc G)(I:∀ j,j<L->G j=.int .i64 (ks.getD j 0))(hv:w.cell? ⟨J,0,none⟩=some (.int .i64 E)) :
  yO 218 #[.slice (some ⟨kb,0,none⟩) L kc,.int .i64 L,.slice (some ⟨J,0,none⟩) 1 1] w (wZ w kb (ins ks L E)):=by
 have h:=Any2.slices_Insert_int_end_room (P:=prog) (ρ:=lays21_ren) lays21 kb 0 L kc J 0 1 1 [.int .i64 E] w oaa oaa oaa rfl
  (fun j D=>by rw[F.cell oaa];rfl) (fun j _=>F.frozen _)
  (fun j v D=>by
   match j,D with
   | 0,D=>simp at D;subst D;simpa using hv)
  (fun v hv=>by simp at hv;subst hv;rfl)
 refine yj (show yO 218 _ _ _ from h) ?_;rintro e w' ⟨rfl,rfl⟩;have hl:=zY ks L E oaa;refine⟨kb,kc,by rw[hl,M],oaa,Or.inl rfl,qA (X:=fun b=>b=kb) rfl _ _ _,_,pY _ _ _ _ F,fun j D=>?_⟩;rw[hl,M] at D;by_cases e:j=L
 ·rw[ye oab,e,AC ks L E oaa];simp
 ·rw[yd oab,zZ ks L j E oaa oaa,I j oaa]
theorem Ct(kb L kc F i:Nat)(ks:List Int)(E:Int)(w:Wd)(O:ks.length=L)(hi:i<L)(a6:L+1<=kc)(a7:kc<=1000000000)(G:Nat->Value)(I:w.rowIs kb 3 kc G)(J:∀ j,j<L->G j=.int .i64 (ks.getD j 0))(Z:F≠kb)(hv:w.heap[F]?=some (.cells #[.int .i64 E] 3 (0,0))) :
  yO 218 #[.slice (some ⟨kb,0,none⟩) L kc,.int .i64 i,.slice (some ⟨F,0,none⟩) 1 1] w (wZ w kb (ins ks i E)):=by
 have a5:w.cell? ⟨F,0,none⟩=some (.int .i64 E):=by simp[World.cell?,hv]
 have M:∀ o,w.frozen? ⟨F,o,none⟩=false:=fun o=>by simp[World.frozen?,hv]
 have U:w.shape? kb=some (3,kc):=by
  obtain⟨c,hc,hs,_⟩:=I;simp[World.shape?,hc,hs]
 have h:=Any2.slices_Insert_int_shift (P:=prog) (ρ:=lays21_ren) lays21 kb 0 L kc i F 0 1 1 (ks.map (Value.int .i64)) [.int .i64 E] w hi oaa oaa oaa Z (by simpa using O) rfl
  (fun j v D=>by
   obtain⟨h1,rfl⟩:=IM D;rw[yD,I.cell oaa,J j oaa])
  (fun j D=>by rw[I.cell oaa];rfl) (fun j _=>I.frozen _)
  (fun j v D=>by
   match j,D with
   | 0,D=>simp at D;subst D;simpa using a5)
  (fun v hv=>by simp at hv;obtain⟨y,_,rfl⟩:=hv;rfl) (fun v hv=>by simp at hv;subst hv;rfl)
  3 3 1 kc (by simp[World.shape?,hv]) U oaa (M _) (M _)
 refine yj (show yO 218 _ _ _ from h) ?_;rintro e w' ⟨rfl,rfl⟩;have hl:=zY ks i E oaa;refine⟨kb,kc,by rw[hl,O],oaa,Or.inl rfl,(Off.refl _ _).drew.trans ((qA (X:=fun b=>b=kb) rfl _ _ _).trans (qA (X:=fun b=>b=kb) rfl _ _ _)),_,pY _ _ _ _ (pY _ _ _ _ I.drew),fun j D=>?_⟩;rw[hl,O] at D;have T:((ks.map (Value.int .i64)).drop i).length=L-i:=by simp[O]
 by_cases h2:j=i
 ·subst h2;rw[ye oac,AC ks j E oaa];simp
 ·rw[yd oab];by_cases h1:i<j
  ·rw[ye (by rw[T];omega),QJ ks i j E oaa h1,aJ ks 0 oaa];simp[List.getD];rw[show i+(j-(i+1))=j-1 by omega];simp[show j-1<ks.length by omega]
  ·rw[yd oaa,zZ ks i j E oaa oaa,J j oaa]
theorem Cu(kb L kc E i:Nat)(ks:List Int)(F:Int)(w:Wd)(M:ks.length=L)(hi:i<=L)(U:L<=kc)(Z:kc<=1000)(G:Nat->Value)(J:w.rowIs kb 3 kc G)(D:∀ j,j<L->G j=.int .i64 (ks.getD j 0))(T:E≠kb)(hv:w.heap[E]?=some (.cells #[.int .i64 F] 3 (0,0))) :
  yO 218 #[.slice (some ⟨kb,0,none⟩) L kc,.int .i64 i,.slice (some ⟨E,0,none⟩) 1 1] w (wZ w kb (ins ks i F)):=by
 have I:w.cell? ⟨E,0,none⟩=some (.int .i64 F):=by simp[World.cell?,hv]
 by_cases h1:i=L
 ·subst h1;by_cases O:kc=i
  ·exact Cr kb i kc E ks F w M O oaa G J D I
  ·exact Cs kb i kc E ks F w M oaa oaa G J D I
 ·by_cases O:kc=L
  ·exact Cq kb L kc E i ks F w M oaa O oaa G J D I
  ·exact Ct kb L kc E i ks F w M oaa oaa oaa G J D T hv
theorem Cv{w:Wd}{F:Nat->Value}(D:w.rowIs g 57 (S.length*8) F)
  (h:∀ i,i<S.length->F (i*8)=.bool (nd S i).u/\F (i*8+1)=.int .i64 (nd S i).n/\F (i*8+2)=.int .i64 (nd S i).t/\F (i*8+3)=.int .i64 (nd S i).m/\F (i*8+4)=.int .i64 (nd S i).p/\(∃ ka kc,F (i*8+5)=.slice ka (nd S i).ks.length kc/\aG w ka (nd S i).ks)/\F (i*8+6)=.int .i64 (nd S i).h/\F (i*8+7)=.bool (nd S i).c) :
  aD w (some ⟨g,0,none⟩) S:=fun i hi=>by
 obtain⟨E,I,J,M,O,⟨ka,kc,T,hk⟩,U,Z⟩:=h i hi;refine⟨g,0,rfl,?_⟩;rw[yD];refine⟨?_,?_,?_,?_,?_,⟨ka,kc,?_,hk⟩,?_,?_⟩
 ·rw[D.cell oaa,E]
 ·rw[D.cell oaa,I]
 ·rw[D.cell oaa,J]
 ·rw[D.cell oaa,M]
 ·rw[D.cell oaa,O]
 ·rw[D.cell oaa,T]
 ·rw[D.cell oaa,U]
 ·rw[D.cell oaa,Z]
theorem qB{w:Wd}{kb kc:Nat}(D:w.rowIs kb 3 kc G)(hl:ks.length<=kc)(h:∀ j,j<ks.length->G j=.int .i64 (ks.getD j 0)):aG w (some ⟨kb,0,none⟩) ks:=fun j E =>
 ⟨kb,0,rfl,by rw[yD,D.cell oaa,h j E]⟩
def rD(S:List Nd)(pa D i:Nat)(j:Nat):Nd :=
 if j=D then ⟨(nd S D).u,(nd S D).n,(nd S D).t,(nd S D).m,pa,(nd S D).ks,(nd S D).h,(nd S D).c⟩
 else if j=pa then ⟨(nd S pa).u,(nd S pa).n,(nd S pa).t,(nd S pa).m,(nd S pa).p,ins (nd S pa).ks i D,(nd S pa).h,(nd S pa).c⟩
 else nd S j
def dD(S:List Nd)(pa D i:Nat):List Nd:=(List.range S.length).map (rD S pa D i)
theorem qC(S:List Nd)(pa D i:Nat):(dD S pa D i).length=S.length:=by simp[dD]
theorem xA(S:List Nd)(pa D i j:Nat)(E:j<S.length):nd (dD S pa D i) j=rD S pa D i j:=by
 rw[eQ (by rw[qC];exact E)];simp[dD]
def atS(ks:List Int):List (Int × Int)->Int
 | []=>ks.length
 | h :: _=>idx ks h.1
theorem Cw{w w2:Wd}{B:Nat}{kb kc:Nat->Nat}(hO:Own w B g S kb kc S.length){W:Wd}(hb:Bl w W){pa E D I:Nat}(hpa:pa<S.length)(hch:E<S.length)(b2:pa≠E)
  (hi:i<=(nd S pa).ks.length) (a6:D=kb pa\/W.heap.size<=D) (a7:Off (fun b=>b=kb pa) W w2)  (hG:w2.rowIs D 3 I G) (b1:(ins (nd S pa).ks i E).length<=I) (a8:∀ j,j<(ins (nd S pa).ks i E).length->G j=.int .i64 ((ins (nd S pa).ks i E).getD j 0)) :
  ∀ w3:World,(∀ b,g<=b->w3.heap[b]?=((w2.setCell ⟨g,pa*8+5,none⟩ (.slice (some ⟨D,0,none⟩) (ins (nd S pa).ks i E).length I)).setCell ⟨g,E*8+4,none⟩ (.int .i64 pa)).heap[b]?)->aD w3 (some ⟨g,0,none⟩) (dD S pa E i):=by
 intro w3 O;obtain⟨_,F,hF,hN,hg,hd⟩:=hO;have a9:=hF.lt;have hW:∀ b,b<w.heap.size->b≠kb pa->w2.heap[b]?=w.heap[b]?:=fun b h1 U=>(a7.block b (yC h1 hb.size) U).trans (hb.block b h1);have a5:g≠kb pa:=by have:=hg pa hpa;omega
 have Z:=(((hF.of_block (hW g a9 a5)).set (pa*8+5) (.slice (some ⟨D,0,none⟩) (ins (nd S pa).ks i E).length I)).set (E*8+4) (.int .i64 pa)).of_block (O g (yr _))
 have b0:D≠g:=by
  rcases a6 with h|h
  ·rw[h];exact fun e=>a5 e.symm
  ·have:=hb.size;omega
 have T:g<=D:=by
  rcases a6 with h|h
  ·rw[h];exact Nat.le_of_lt (hg pa hpa)
  ·have:=hb.size;omega
 rw[<- qC S pa E i] at Z;refine Cv Z (fun j J=>?_);rw[qC] at J;rw[xA S pa E i j J];obtain⟨e0,e1,e2,e3,e4,e5,e6,e7,e8,b3,G0,M,e9⟩:=hN j J;unfold rD;by_cases h1:j=E
 ·subst h1;rw[ye rfl]
  have hr:w3.rowIs (kb j) 3 (kc j) G0 :=
   (((M.of_block (hW (kb j) M.lt (fun e=>b2 (hd pa hpa j J e.symm)))).setOther (by have:=hg j J;simp;omega) _).setOther (by have:=hg j J;simp;omega) _).of_block (O (kb j) (Nat.le_of_lt (hg j J)))
  refine⟨?_,?_,?_,?_,?_,⟨some ⟨kb j,0,none⟩,kc j,?_,qB hr e8 e9⟩,?_,?_⟩
  all_goals dsimp only
  ·rw[yd oaa,yd oaa,e0]
  ·rw[yd oaa,yd oaa,e1]
  ·rw[yd oaa,yd oaa,e2]
  ·rw[yd oaa,yd oaa,e3]
  ·rw[ye rfl]
  ·rw[yd oaa,yd oaa,e5]
  ·rw[yd oaa,yd oaa,e6]
  ·rw[yd oaa,yd oaa,e7]
 ·rw[yd h1];by_cases U:j=pa
  ·subst U;rw[ye rfl];have hr:=((hG.setOther (a:=⟨g,j*8+5,none⟩) oab (.slice (some ⟨D,0,none⟩) (ins (nd S j).ks i E).length I)).setOther (a:=⟨g,E*8+4,none⟩) oab (.int .i64 j)).of_block (O D T);refine⟨?_,?_,?_,?_,?_,⟨some ⟨D,0,none⟩,I,?_,qB hr b1 a8⟩,?_,?_⟩
   all_goals dsimp only
   ·rw[yd oaa,yd oaa,e0]
   ·rw[yd oaa,yd oaa,e1]
   ·rw[yd oaa,yd oaa,e2]
   ·rw[yd oaa,yd oaa,e3]
   ·rw[yd oaa,yd oaa,e4]
   ·rw[yd oaa,ye rfl]
   ·rw[yd oaa,yd oaa,e6]
   ·rw[yd oaa,yd oaa,e7]
  ·rw[yd U]
   have hr:w3.rowIs (kb j) 3 (kc j) G0 :=
    (((M.of_block (hW (kb j) M.lt (fun e=>U (hd j J pa hpa e)))).setOther (by have:=hg j J;simp;omega) _).setOther (by have:=hg j J;simp;omega) _).of_block (O (kb j) (Nat.le_of_lt (hg j J)))
   refine⟨?_,?_,?_,?_,?_,⟨some ⟨kb j,0,none⟩,kc j,?_,qB hr e8 e9⟩,?_,?_⟩
   all_goals
    rw[yd oaa,yd oaa];assumption
theorem uA{a:Addr}(w:Wd)(D:X a.block)(v:Value):Off X w (w.setCell a v) :=
 ⟨rfl,rfl,rfl,oac,fun k _ E=>yx w a v k (fun e=>E (by rw[e];exact D))⟩
theorem Off.frozen(h:Off X w w'){p:Addr}(D:p.block<w.heap.size)(E:¬ X p.block):w'.frozen? p=w.frozen? p:=by
 unfold World.frozen?;rw[h.block _ D E]
theorem Cx(g c N D:Nat)(w:Wd)(hch:D<N)(I:w.cell? ⟨g,D*8+4,none⟩=some (.int .i64 (-1))) :
  yO 186 #[.slice (some ⟨g,0,none⟩) N c,.int .i64 D] w fun e w' => e=.returned (.tuple #[])/\Below w.heap.size w w' := by
 have E:(D:Int)<(N:Int):=oaa
 have F:=yi _ _ I
 go_enter func186,ntmps186
 go_wp2
 exact yz (v:=.tuple #[]) (by simp[results,results186,go_sem]) rfl ⟨rfl,(yv _ _).alloc (yr _) _⟩
theorem Cy(B g c:Nat)(S:List Nd)(kb kc:Nat->Nat)(pa D at' : Nat)(ha:OA)(hc:Nat)(hs:List (Int × Int))(w:Wd)(hO:Own w B g S kb kc S.length)(hpa:pa<S.length)(hch:D<S.length)(d4:pa≠D)(b4:hs.length<=1)(hH:aZ w ha hs)(a9:atS (nd S pa).ks hs=at')(U:at' <=(nd S pa).ks.length) :
  yO 207 #[.slice (some ⟨g,0,none⟩) S.length c,.int .i64 pa,.int .i64 D,.slice ha hs.length hc] w fun e w' => e=.returned (.tuple #[])/\Off (fun b=>b=g\/b=kb pa) w w' /\ ∀ w3:World,(∀ b,g<=b->w3.heap[b]?=w'.heap[b]?)->aD w3 (some ⟨g,0,none⟩) (dD S pa D at'):=by
 have AF:Hid (∀ (W w2:Wd) (E J:Nat) (G' : Nat->Value),Bl w W->(E=kb pa\/W.heap.size<=E)->Off (fun b=>b=kb pa) W w2->w2.rowIs E 3 J G' ->(ins (nd S pa).ks at' D).length<=J->(∀ j,j<(ins (nd S pa).ks at' D).length->G' j=.int .i64 ((ins (nd S pa).ks at' D).getD j 0))->∀ w3:World,(∀ b,g<=b->w3.heap[b]?=((w2.setCell ⟨g,pa*8+5,none⟩ (.slice (some ⟨E,0,none⟩) (ins (nd S pa).ks at' D).length J)).setCell ⟨g,D*8+4,none⟩ (.int .i64 pa)).heap[b]?)->aD w3 (some ⟨g,0,none⟩) (dD S pa D at')):=fun W w2 E J G' h1 h2 h3 h4 h5 h6=>Cw hO h1 hpa hch d4 U h2 h3 h4 h5 h6;have HH:Hid (aZ w ha hs):=hH;obtain⟨hB,F,hF,Z,hg,hd⟩:=hO;obtain⟨e0,e1,e2,e3,e4,e5,e6,e7,e8,a7,G,hG,e9⟩:=Z pa hpa;obtain⟨f0,f1,f2,f3,f4,f5,f6,f7,f8,b9,G2,c6,f9⟩:=Z D hch;have M:=hF.lt;have c7:=hF.frozen;have q5:w.cell? ⟨g,pa*8+5,none⟩=some (.slice (some ⟨kb pa,0,none⟩) (nd S pa).ks.length (kc pa)):=by rw[hF.cell oaa,e5]
 have q4:w.cell? ⟨g,D*8+4,none⟩=some (.int .i64 (nd S D).p):=by rw[hF.cell oaa,f4]
 have c8:=hG.lt;have g6:=hg pa hpa;have dx:=fun(v:Int) (W:Wd) (hW:Bl w W)=>Cg (some ⟨kb pa,0,none⟩) (kc pa) (nd S pa).ks v W oaa ((qB hG e8 e9).below hW);have DX:Hid _:=dx;have di:=fun(W:Wd) (hW:Bl w W) (vb:Nat) (d5:vb≠kb pa) (hv:W.heap[vb]?=some (.cells #[.int .i64 (D:Int)] 3 (0,0)))=>Cu (kb pa) (nd S pa).ks.length (kc pa) vb at' (nd S pa).ks D W rfl U e8 a7 G (hG.of_block (hW.block _ hG.lt)) e9 d5 hv;have DI:Hid _:=di;have d9:(pa:Int)<(S.length:Int):=oaa
 have d7:(D:Int)<(S.length:Int):=oaa
 have H1:Hid (hs.length<=1):=b4;have b5:Hid _:=a9;have g0:(nd S pa).ks.length<=1000:=oaa
 clear e0 e1 e2 e3 e4 e5 e6 e7 e8 a7 hG e9 f0 f1 f2 f3 f4 f5 f6 f7 f8 b9 c6 f9 hF Z hd hg dx di hH a9;generalize hL:(nd S pa).ks.length=L at *;have HL:Hid _:=hL;clear hL;generalize hn:S.length=n at *;generalize hm:hs.length=m at *;have HM:Hid _:=hm;clear hn hm;have g8:m<=1:=b4
 go_enter func207,ntmps207
 go_wp2
 go_loopg [9,21] m (fun g1 s9 s21 wr=>∃ (k:Nat) (x:Int),k<=m/\m-k<=g1/\s21=.int .i64 k/\s9=.int .i64 x/\Below w.heap.size w wr/\Hid (x=atS (nd S pa).ks (hs.take k)))
 case atStart=>exact⟨0,L,oaa,oaa,rfl,rfl,yv _ _,(show _=_ by rw[<- HL.out];rfl)⟩
 case round =>
  obtain⟨k,x,hk,g5,rfl,rfl,hb,A⟩:=hrel;by_cases c9:k<m
  ·have b0:k=0:=oaa;obtain⟨b,o,rfl,c0,c1⟩:=(HH.below hb) k (by rw[HM.out];exact c9);have d8:(k:Int)<(m:Int):=oaa;have g4:=yi _ _ c0
   have TK:Hid (atS (nd S pa).ks (hs.take (k+1))=idx (nd S pa).ks (hs.getD k (0,0)).1):=by
    subst b0;show _=_
    obtain⟨h0,hr,rfl⟩:∃ h0 hr,hs=h0 :: hr:=by
     cases hs with
     | nil=>have:=HM.out;simp at this;omega
     | cons a r=>exact⟨a,r,rfl⟩
    rfl
   generalize (hs.getD k (0,0)).1=pv at *;generalize (hs.getD k (0,0)).2=uv at *;have d1:=fun o1=>DX.out pv (wr.alloc o1) (hb.alloc hb.size o1);generalize idx (nd S pa).ks pv=ix at *;clear b0
   go_wp2_with (go_at_call 217;refine(d1 _).mono ?_;rintro e w2 ⟨rfl,rfl⟩)
   go_roundg (m-(k+1))
   case measure=>omega
   case rel=>exact⟨k+1,ix,oaa,oaa,by go_num,rfl,hb.alloc hb.size _,TK.symm⟩
  ·have b3:k=m:=oaa
   have d6:x=(at' : Int):=by
    rw[A.out,b3,<- HM.out,List.take_length];exact b5.out
   subst b3;subst d6;have r5:=(hb.cell (by exact M)).trans q5;have r4:=(hb.cell (by exact M)).trans q4;have rf:=fun o=>(hb.frozen (by exact M)).trans (c7 o);have g7:kb pa<wr.heap.size:=yC c8 hb.size;have HV:Hid ((wr.alloc (.cells #[.int .i64 (D:Int)] 3)).heap[wr.heap.size]?=some (.cells #[.int .i64 (D:Int)] 3 (0,0))):=yN wr _;clear A
   have b6:Hid (∀ w2,Off (fun b=>b=kb pa) (wr.alloc (.cells #[.int .i64 (D:Int)] 3)) w2->w2.cell? ⟨g,pa*8+5,none⟩=some (.slice (some ⟨kb pa,0,none⟩) L (kc pa))/\(∀ v,(w2.setCell ⟨g,pa*8+5,none⟩ v).cell? ⟨g,D*8+4,none⟩=some (.int .i64 (nd S D).p))/\(∀ o,w2.frozen? ⟨g,o,none⟩=false)):=fun w2 h2=>by
    have a6:g<wr.heap.size:=yC M hb.size;have a5:=(yv _ wr).alloc (yr _) (.cells #[.int .i64 (D:Int)] 3);refine⟨?_,fun v=>?_,fun o=>?_⟩
    ·exact((h2.cell oab oab).trans (a5.cell (by exact a6))).trans r5
    ·rw[World.cell?_setCell_other _ _ _ _ oac];exact((h2.cell oab oab).trans (a5.cell (by exact a6))).trans r4
    ·exact((h2.frozen oab oab).trans (a5.frozen (by exact a6))).trans (rf o)
   go_wp2_with (go_at_call 218;refine(DI _ (hb.alloc hb.size _) wr.heap.size oaa HV.out).mono ?_;rintro e w2 ⟨E,J,rfl,b2,b1,I,G', a8,T⟩;obtain⟨s5,s4,sf⟩:=b6.out w2 I;have b7:Hid _:=a8;have b8:Hid _:=T;have O:Hid _:=I;clear a8 T I)
   refine bodyPost_end (v:=.tuple #[]) (by simp[results,results207,go_sem]) rfl ⟨rfl,?_,?_⟩
   ·have h1:Off (fun b=>b=g\/b=kb pa) w w2:=(Off.of_below (hb.alloc hb.size _)).trans (O.mono (fun k _ h=>Or.inr h));exact(h1.trans (uA _ (Or.inl rfl) _)).trans (uA _ (Or.inl rfl) _)
   ·exact AF.out _ _ _ _ _ (hb.alloc hb.size _) b1 O.out b7.out b2 b8.out
theorem WF.kid_deep(h:WF S)(M:p<S.length)(J:Deep S (f+1) p){x:Int}(D:x ∈ (nd S p).ks) :
  ∃ k:Nat,x=k/\k<S.length/\(nd S k).u=true/\(nd S k).p=p/\bA (nd S k)=p/\Deep S f k:=by
 obtain⟨k,rfl,h1,E,F,I⟩:=h.kid M D;have:=(J (k:Int) D).2;rw[yk] at this;exact⟨k,rfl,h1,E,F,I,this⟩
theorem qD{S:List Nd}(h:WF S):∀ {f p:Nat},p<S.length->Deep S f p->∀ x ∈ bZ S f p,∃ q:Nat,x=q/\q<S.length/\(q=p\/(nd S q).u=true)/\∃ j,j<=f/\Up S j q p
 | 0,p,E,_,x,D=>by
  have:x=(p:Int):=by simpa [bZ] using D
  exact⟨p,this,E,Or.inl rfl,0,yr _,rfl⟩
 | f+1,p,E,O,x,D=>by
  simp only[bZ,List.mem_cons,List.mem_flatMap] at D;rcases D with rfl |⟨k,T,D⟩
  ·exact⟨p,rfl,E,Or.inl rfl,0,oaa,rfl⟩
  ·obtain⟨k,rfl,h1,J,Z,M,h5⟩:=h.kid_deep E O T;rw[yk] at D;obtain⟨q,e,U,F,j,hj,I⟩:=qD h h1 h5 x D;refine⟨q,e,U,Or.inr ?_,j+1,oaa,I.trans (WF.up_one E M)⟩;rcases F with rfl|F
   ·exact J
   ·exact F
theorem IY{α β:Type}(g:α->List β):∀ (ks:List α),ks.Nodup->(∀ k ∈ ks,(g k).Nodup)->(∀ k ∈ ks,∀ k' ∈ ks,k≠k' -> ∀ x ∈ g k,x ∉ g k')->(ks.flatMap g).Nodup
 | [],_,_,_=>oac
 | k :: ks,hn,hg,hd=>by
  rw[List.flatMap_cons,List.nodup_append];obtain⟨h1,F⟩:=List.nodup_cons.1 hn;refine⟨hg k oac,IY g ks F (fun k' D=>hg k' (by simp[D])) (fun a ha b hb=>hd a (by simp[ha]) b (by simp[hb])),fun x I y E e=>?_⟩;obtain⟨k', D,E⟩:=List.mem_flatMap.1 E;exact hd k oac k' (by simp[D]) (fun e=>h1 (by rw[e];exact D)) x I (by rw[e];exact E)
theorem QU(S:List Nd)(j:Nat):∀ {k k' : Nat},k<=k' -> k' <= S.length->dP S k j<=dP S k' j:=by
 intro k k' D
 induction D with
 | refl=>intro _;exact yr _
 | step _ E =>
  intro h;rw[wJ S _ j oaa];have:=E oaa;omega
theorem WF.kids_nodup(h:WF S)(hi:i<S.length):(nd S i).ks.Nodup:=by
 rw[List.nodup_iff_count];intro x;by_cases D:x ∈ (nd S i).ks
 ·obtain⟨k,rfl,E,_⟩:=h.kid hi D;have h1:=(h.kids.2 k E).1;have F:=wJ S i k hi;have I:=QU S k (k:=i+1) (k' := S.length) oaa (yr _);omega
 ·rw[List.count_eq_zero.2 D];omega
theorem WF.in_kids(h:WF S)(F:k<S.length){y:Nat}(M:(nd S k).p=y):y<S.length/\(k:Int) ∈ (nd S y).ks:=by
 have hc:=(h.kids.2 k F).2 oaa;unfold dP at hc;rw[List.take_length] at hc
 have E:(k:Int) ∈ S.flatMap Nd.ks:=by
  by_cases E:(k:Int) ∈ S.flatMap Nd.ks
  ·exact E
  ·exact absurd (List.count_eq_zero.2 E) hc
 obtain⟨x,I,D⟩:=List.mem_flatMap.1 E;obtain⟨i,hi,rfl⟩:=List.getElem_of_mem I;rw[<- eQ hi] at D;obtain⟨k', e,_,_,J,_⟩:=h.kid hi D;have:k' = k:=oaa
 subst this;have:y=i:=oaa
 subst this;exact⟨hi,D⟩
theorem AX{S:List Nd}(h:WF S):∀ {f p:Nat},p<S.length->f<=S.length->Deep S f p->(bZ S f p).Nodup
 | 0,p,_,_,_=>by simp[bZ]
 | f+1,p,D,hf,T=>by
  simp only[bZ];rw[List.nodup_cons];refine⟨fun U=>?_,IY _ _ (h.kids_nodup D) (fun x J=>?_) (fun x J y hy a9 z hz M=>?_)⟩
  ·obtain⟨x,J,U⟩:=List.mem_flatMap.1 U;obtain⟨k,rfl,h1,h2,h3,O,h5⟩:=h.kid_deep D T J;rw[yk] at U;obtain⟨q,e,hq,_,j,hj,E⟩:=qD h h1 h5 _ U;have:q=p:=oaa;subst this;exact h.no_ring D (j:=j+1) oaa oaa (E.trans (WF.up_one D O))
  ·obtain⟨k,rfl,h1,h2,h3,O,h5⟩:=h.kid_deep D T J;rw[yk];exact AX h h1 oaa h5
  ·obtain⟨k,rfl,h1,h2,h3,O,h5⟩:=h.kid_deep D T J;obtain⟨k', rfl,Z,b0,b1,a5,a6⟩:=h.kid_deep D T hy;rw[yk] at hz M;obtain⟨q,e,hq,_,j,hj,E⟩:=qD h h1 h5 _ hz;obtain⟨q', e', b3,_,F,b2,I⟩:=qD h Z a6 _ M;have:q=q' := by omega
   subst this;have u1:=E.trans (WF.up_one D O);have u2:=I.trans (WF.up_one D a5)
   have a7:j=F:=by
    rcases Nat.lt_trichotomy j F with a8|e|a8
    ·obtain⟨y,v1,v2⟩:=Up.split (i:=j+1) (j:=F-j) (by rw[show j+1+(F-j)=F+1 by omega];exact u2);have:=Up.det v1 u1;subst this;exact absurd v2 (h.no_ring D oaa oaa)
    ·exact e
    ·obtain⟨y,v1,v2⟩:=Up.split (i:=F+1) (j:=j-F) (by rw[show F+1+(j-F)=j+1 by omega];exact u1);have:=Up.det v1 u2;subst this;exact absurd v2 (h.no_ring D oaa oaa)
   subst a7;exact a9 (by rw[Up.det E I])
theorem uD(h:WF S)(D:p<S.length):(bZ S S.length p).length<=S.length:=by
 have h1:=AX h D (yr _) (h.deep_all D)
 have:=h1.length_le_of_subset (l₂:=(List.range S.length).map (fun i:Nat=>(i:Int))) (fun x F=>by
  obtain⟨q,rfl,E,_⟩:=qD h D (h.deep_all D) x F;exact List.mem_map.2 ⟨q,List.mem_range.2 E,rfl⟩)
 simpa using this
def Par(S:List Nd):List Int->List Int->Prop
 | _,[]=>True
 | seen,x :: r=>(nd S x.toNat).p ∈ seen/\Par S (seen++[x]) r
theorem Par.append:∀ {a b seen:List Int},Par S seen a->Par S (seen++a) b->Par S seen (a++b)
 | [],b,seen,_,hb=>by simpa using hb
 | x :: a,b,seen,⟨h1,D⟩,hb=>⟨h1,Par.append D (by simpa using hb)⟩
theorem Par.flat{p:Int}(g:Int->List Int):∀ (ks seen:List Int),p ∈ seen->(∀ k ∈ ks,∀ D,p ∈ D->Par S D (g k))->Par S seen (ks.flatMap g)
 | [],_,_,_=>trivial
 | k :: ks,seen,F,hg=>by
  rw[List.flatMap_cons];exact Par.append (hg k oac seen F) (Par.flat g ks _ (by simp[F]) (fun k' E=>hg k' (by simp[E])))
theorem QV{S:List Nd}(h:WF S):∀ {f p:Nat} {seen:List Int},p<S.length->Deep S f p->(nd S p).p ∈ seen->Par S seen (bZ S f p)
 | 0,p,seen,_,_,D=>⟨by simpa using D,trivial⟩
 | f+1,p,seen,J,I,D=>by
  refine⟨by simpa using D,Par.flat (p:=(p:Int)) _ _ _ oac (fun x M E hs=>?_)⟩;obtain⟨k,rfl,h1,O,F,T,h5⟩:=h.kid_deep J I M;rw[yk];exact QV h h1 h5 (by rw[F];exact hs)
theorem Dn(h:WF S)(I:p<S.length)(F:Deep S f p):∃ r,bZ S f p=(p:Int) :: r/\Par S [(p:Int)] r:=by
 cases f with
 | zero=>exact⟨[],rfl,trivial⟩
 | succ f =>
  refine⟨_,rfl,Par.flat (p:=(p:Int)) _ _ _ oac (fun x J D hs=>?_)⟩;obtain⟨k,rfl,h1,M,E,O,h5⟩:=h.kid_deep I F J;rw[yk];exact QV h h1 h5 (by rw[E];exact hs)
theorem Par.get:∀ {r seen:List Int} {i:Nat},Par S seen r->i<r.length->(nd S (r.getD i 0).toNat).p ∈ seen++r.take i
 | x :: r,seen,0,⟨h1,_⟩,_=>by simpa using h1
 | x :: r,seen,i+1,⟨_,D⟩,hi=>by
  have:=Par.get D (i:=i) (by simpa using hi);simpa using this
theorem QW{S:List Nd}(h:WF S):∀ {f p:Nat},p<S.length->Deep S f p->∀ y ∈ bZ S f p,∀ k ∈ (nd S y.toNat).ks,k ∈ bZ S f p
 | 0,p,_,F,y,E,k,D=>by
  have:y=(p:Int):=by simpa [bZ] using E
  subst this;rw[yk,show (nd S p).ks=[] from F] at D;cases D
 | f+1,p,I,F,y,E,k,D=>by
  simp only[bZ,List.mem_cons,List.mem_flatMap] at E |-;right;rcases E with rfl |⟨x,J,E⟩
  ·rw[yk] at D;obtain⟨k', rfl,h1,M,O,T,h5⟩:=h.kid_deep I F D;refine⟨_,D,?_⟩;rw[yk]
   cases f <;> simp[bZ]
  ·obtain⟨k', rfl,h1,M,O,T,h5⟩:=h.kid_deep I F J;rw[yk] at E;refine⟨_,J,?_⟩;rw[yk];exact QW h h1 h5 y E k D
def bE(S:List Nd)(p:Nat):List Int:=bZ S S.length p
structure Dq (S:List Nd) (k:Nat) (l:List Int):Prop where
 pos:0<l.length
 small:l.length<=24
 head:l.getD 0 0=k
 each:∀ i,i<l.length->∃ q:Nat,l.getD i 0=q/\q<S.length/\(nd S q).u=true/\(q:Int) ∉ l.take i/\(0<i->(nd S q).p ∈ l.take i)
 closed:∀ q:Nat,q<S.length->0<=(nd S q).p->q≠k->decide ((nd S q).p ∈ l)=decide ((q:Int) ∈ l)
theorem Dr(S:List Nd)(p u:Int):mP S [(p,u)]=iX S p u:=by
 simp only[mP];by_cases h:iX S p u=0
 ·rw[ye h,h]
 ·rw[yd h]
theorem holds_zero{p u:Int}(h:iX S p u=0):∃ k:Nat,p=k/\k<S.length/\(nd S k).u=true/\(nd S k).n=u:=by
 unfold iX at h;by_cases D:dZ S.length p=true
 ·rw[ye D] at h;have E:0<=p/\p<=(S.length:Int)-1:=of_decide_eq_true D;obtain⟨k,rfl⟩:∃ k:Nat,p=(k:Int):=⟨p.toNat,oaa⟩;rw[yk] at h;refine⟨k,rfl,oaa,?_⟩;unfold wV at h
  split at h
  ·split at h
   ·split at h
    ·exact⟨by assumption,by assumption⟩
    ·omega
   ·omega
  ·omega
 ·rw[yd D] at h;omega
theorem Dt(h:WF S)(F:k<S.length)(hu:(nd S k).u=true):Dq S k (bE S k):=by
 have O:=h.deep_all F;have hn:=AX h F (yr _) O;have hl:=uD h F;obtain⟨r,T,hP⟩:=Dn h F O
 have J:∀ x ∈ bE S k,∃ q:Nat,x=q/\q<S.length/\(nd S q).u=true:=fun x hx=>by
  obtain⟨q,e,M,D,_⟩:=qD h F O x hx;refine⟨q,e,M,?_⟩;rcases D with rfl|D
  ·exact hu
  ·exact D
 have E:∀ i,i<(bE S k).length->0<i->(nd S ((bE S k).getD i 0).toNat).p ∈ (bE S k).take i:=fun i hi h0=>by
  unfold bE at hi |-;rw[T] at hi |-;obtain⟨i,rfl⟩:∃ j,i=j+1:=⟨i-1,oaa⟩;have:=hP.get (i:=i) (by simpa using hi);simpa using this
 refine⟨by unfold bE;rw[T];simp,by unfold bE;have:=h.small;omega,by unfold bE;rw[T];simp,fun i hi=>?_,fun q M hp a5=>?_⟩
 ·obtain⟨q,e,M,D⟩:=J ((bE S k).getD i 0) (by rw[aJ _ 0 hi];exact List.getElem_mem hi);refine⟨q,e,M,D,fun I=>?_,fun h0=>?_⟩
  ·obtain⟨j,hj,ej⟩:=List.getElem_of_mem I;rw[List.length_take] at hj;rw[List.getElem_take] at ej;rw[aJ _ 0 hi] at e;have U:j<(bE S k).length:=oaa;have:=(List.getElem?_inj (i:=j) (j:=i) U hn).1 (by show (bE S k)[j]?=(bE S k)[i]?;rw[List.getElem?_eq_getElem oaa,List.getElem?_eq_getElem hi];exact congrArg some (ej.trans e.symm));omega
  ·have:=E i hi h0
   rwa [e,yk] at this
 ·obtain⟨y,hy⟩:∃ y:Nat,(nd S q).p=(y:Int):=⟨(nd S q).p.toNat,oaa⟩;rw[hy];by_cases I:(y:Int) ∈ bE S k
  ·have:=QW h F O (y:Int) I (q:Int) (by rw[yk];exact(h.in_kids M hy).2);rw[yI I,yI (show (q:Int) ∈ bE S k from this)]
  ·have:(q:Int) ∉ bE S k:=fun Z=>by
    obtain⟨i,hi,ei⟩:=List.getElem_of_mem Z
    have h0:0<i:=by
     rcases Nat.eq_zero_or_pos i with rfl|h0
     ·exfalso;have:(bE S k).getD 0 0=(k:Int):=(by unfold bE;rw[T];simp);rw[aJ _ 0 hi,ei] at this;omega
     ·exact h0
    have:=E i hi h0;rw[aJ _ 0 hi,ei,yk,hy] at this;exact I (List.mem_of_mem_take this)
   rw[yH I,yH this]
