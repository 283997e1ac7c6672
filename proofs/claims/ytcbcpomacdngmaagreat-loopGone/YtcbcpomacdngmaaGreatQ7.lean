/-
  x
-/
import Derived.Test.YtcbcpomacdngmaaGreatQ6
import Derived.Lib.AppendZerosOnto
import Derived.Lib.SliceRun
import Derived.Lib.Walk
import Derived.BigQuiet
import Derived.Laws.StructEq
import Derived.Shelf.SlGeneric
import Derived.Shelf.Spec.SlicesInsertGrow
import Derived.Ground.Names2Prog
import Derived.Ground.SlgfProg
import Derived.Shelf.SlicesE.DeleteFunc
namespace Go.Proofs.YtcbcpomacdngmaaGreat
set_option maxRecDepth 100000
set_option maxHeartbeats 4000000
set_option linter.unusedVariables false
open Go.RowKit Go.Shelf
def zjf(S:List Nd)(D pa:Nat):Bool:=decide ((nd S D).h = -1) && (!decide ((pa:Int)=D) && !zbt S pa D)
theorem zlH(a:Option Addr)(c:Nat)(S:List Nd)(D pa:Nat)(w:World)(hN:S.length<=9223372036854775807)(hc:D<S.length)(F:zah w a S) :
  Calls Tryz.prog 205 #[.agg #[.slice a S.length c],.int .i64 D,.int .i64 pa] w fun e w' => e=.returned (.bool (zjf S D pa))/\Below w.heap.size w w' := by
 unfold zjf;have J:=fun(W:World) (hW:zah W a S)=>znH a c S pa D W hN hW;have O:Hid _:=J;have T:Hid (zah w a S):=F;have a6:(D:Int)<(S.length:Int):=by omega
 obtain⟨b,o,rfl,c0,_,_,_,_,_,c6,_⟩:=F D hc;have a5:=yd _ _ c0;clear F J;generalize zbt S pa D=U at *;generalize (nd S D).h=hh at *;generalize S.length=n at *;by_cases h1:hh = -1
 ·subst h1;by_cases E:(pa:Int)=D
  ·have e:decide ((pa:Int)=D)=true:=decide_eq_true E;have h3:pa=D:=by omega
   subst h3;rw[e];simp only[decide_true,Bool.not_true,Bool.false_and,Bool.and_false]
   go_enter Tryz.func205,Tryz.ntmps205
   go_wp2
   go_ret;exact⟨rfl,(yk _ _).alloc (yj _) _⟩
  ·have e:decide ((pa:Int)=D)=false:=decide_eq_false E;rw[e];have M:((pa:Int) ==(D:Int))=false:=beq_eq_false_iff_ne.2 E;have e2:((pa:Int) !=(D:Int))=true:=by simp[bne,M]
   have Z:¬ pa=D:=by omega
   simp only[decide_true,Bool.not_false,Bool.true_and];cases U
   all_goals
    go_enter Tryz.func205,Tryz.ntmps205
    go_wp2_with (go_at_call 128;refine(O.out _ (T.out.below ((yk _ _).alloc (yj _) _))).mono ?_;rintro e w1 ⟨rfl,I⟩)
    go_ret;exact⟨rfl,((yk _ _).alloc (yj _) _).trans (I.mono (by simp))⟩
 ·have e:decide (hh = -1)=false:=decide_eq_false h1;have M:(hh == -1)=false:=beq_eq_false_iff_ne.2 h1;rw[e];simp only[Bool.false_and]
  go_enter Tryz.func205,Tryz.ntmps205
  go_wp2
  go_ret;exact⟨rfl,(yk _ _).alloc (yj _) _⟩
theorem zow(ha:Option Addr)(hc:Nat)(hs:List (Int × Int))(p u:Int)(w:World)(hL:hs.length<=9223372036854775807)(hH:zas w ha hs) :
  Calls Tryz.prog 216 #[.slice ha hs.length hc,.agg #[.int .i64 p,.int .i64 u]] w fun e w' => ∃ r:Int,e=.returned (.int .i64 r)/\Below w.heap.size w w' /\((0<=r)↔(p,u) ∈ hs):=by
 have HH:Hid (zas w ha hs):=hH;have IN:Hid (∀ k,k<hs.length->hs.getD k (0,0)=(p,u)->(p,u) ∈ hs):=fun k hk h=>by rw[<- h,zae hs _ hk];exact List.getElem_mem hk
 have a5:Hid ((∀ k,k<hs.length->hs.getD k (0,0)≠(p,u))->(p,u) ∉ hs):=fun h J=>by
  obtain⟨i,hi,e⟩:=List.getElem_of_mem J;exact h i hi (by rw[zae hs _ hi];exact e)
 clear hH;generalize J:hs.length=m at *;have HM:Hid _:=J;clear J;generalize ((p,u) ∈ hs)=Q at *
 go_enter Tryz.func216,Tryz.ntmps216
 go_wp2
 go_loopg [8] m (fun g s8 wr=>∃ k:Nat,k<=m/\m-k<=g/\s8=.int .i64 k/\Below (w.heap.size+1) (w.alloc (.cells #[.int .i64 p,.int .i64 u] 61)) wr/\Hid (∀ i,i<k->hs.getD i (0,0)≠(p,u)))
 case atStart=>exact⟨0,by omega,by omega,rfl,yk _ _,(show Hid _ from fun i hi=>absurd hi (yw _))⟩
 case round =>
  obtain⟨k,hk,hg,rfl,E,A⟩:=hrel;have D:Below w.heap.size w wr:=((yk _ _).alloc (yj _) _).trans (E.mono (by omega));have x0:wr.cell? ⟨w.heap.size,0,none⟩=some (.int .i64 p):=(E.cell (by simp)).trans (by go_simp);have x1:wr.cell? ⟨w.heap.size,1,none⟩=some (.int .i64 u):=(E.cell (by simp)).trans (by go_simp);by_cases F:k<m
  ·have a6:(k:Int)<(m:Int):=by omega
   obtain⟨b,o,rfl,c0,c1⟩:=(HH.out.below D) k (by rw[HM.out];exact F);generalize hy:hs.getD k (0,0)=y at *;obtain⟨M,O⟩:=y;dsimp only at c0 c1;have T:Hid _:=hy;clear hy;by_cases I:p=M
   ·by_cases e2:u=O
    ·subst I;subst e2;have Z:Hid _:=IN.out k F T.out
     go_wp2_with fail
     go_quiet (fail)
     go_wp2
     go_ret;exact⟨k,rfl,Below.drewNs D _,fun _=>Z.out,fun _=>by omega⟩
    ·have e3:(u == O)=false:=beq_eq_false_iff_ne.2 e2;have U:Hid ((M,O)≠(p,u)):=fun h=>e2 (by cases h;rfl);subst I
     go_wp2_with fail
     go_quiet (fail)
     go_wp2
     go_roundg (m-(k+1))
     case measure=>omega
     case rel =>
      refine⟨k+1,by omega,by omega,by go_num,Below.drewNs E _,(show Hid _ from fun i hi=>?_)⟩;by_cases e:i=k
      ·rw[e,T.out];exact U.out
      ·exact A.out i (by omega)
   ·have e3:(p == M)=false:=beq_eq_false_iff_ne.2 I;have U:Hid ((M,O)≠(p,u)):=fun h=>I (by cases h;rfl)
    go_wp2_with fail
    go_quiet (fail)
    go_wp2
    go_roundg (m-(k+1))
    case measure=>omega
    case rel =>
     refine⟨k+1,by omega,by omega,by go_num,Below.drewNs E _,(show Hid _ from fun i hi=>?_)⟩;by_cases e:i=k
     ·rw[e,T.out];exact U.out
     ·exact A.out i (by omega)
  ·have:k=m:=by omega
   subst this;have Z:Hid _:=a5.out A.out
   go_wp2
   go_ret;exact⟨-1,rfl,D,fun h=>by omega,fun h=>absurd h Z.out⟩
def Tryz.lays21_ren:Go.Shelf.Ren:=⟨fun|21=>218|27=>224|28=>225|35=>227|39=>228|n=>n,fun|22=>48|3=>3|4=>4|0=>0|n=>n,fun|n=>n⟩
theorem Tryz.lays21:Go.Proofs.Lays2.n21 Tryz.prog Tryz.lays21_ren:={
 mixed:=by kernel_rfl
 f21:=Tryz.func218.trans (congrArg some (by kernel_rfl))
 f27:=Tryz.func224.trans (congrArg some (by kernel_rfl))
 f28:=Tryz.func225.trans (congrArg some (by kernel_rfl))
 f35:=Tryz.func227.trans (congrArg some (by kernel_rfl))
 f39:=Tryz.func228.trans (congrArg some (by kernel_rfl))
 t0:=Tryz.underlying0
 a0:=Tryz.isAgg0
 z0:=Tryz.sizeOf0
 v0:=Tryz.zeroValue0
 t3:=Tryz.underlying3
 a3:=Tryz.isAgg3
 z3:=Tryz.sizeOf3
 v3:=Tryz.zeroValue3
 t4:=Tryz.underlying4
 a4:=Tryz.isAgg4
 z4:=Tryz.sizeOf4
 v4:=Tryz.zeroValue4
 t22:=Tryz.underlying48
 a22:=Tryz.isAgg48
 z22:=Tryz.sizeOf48
 v22:=Tryz.zeroValue48
 i3:=by kernel_rfl }
def ins(ks:List Int)(i:Nat)(c:Int):List Int:=ks.take i++c :: ks.drop i
theorem zfQ(ks:List Int)(i:Nat)(c:Int)(h:i<=ks.length):(ins ks i c).length=ks.length+1:=by
 simp[ins];omega
theorem zlK(ks:List Int)(i j:Nat)(c:Int)(h:i<=ks.length)(D:j<i):(ins ks i c).getD j 0=ks.getD j 0:=by
 simp[ins,List.getD,List.getElem?_append,D];rw[yb (by omega)]
theorem ziP(ks:List Int)(i:Nat)(c:Int)(h:i<=ks.length):(ins ks i c).getD i 0=c:=by
 simp[ins,List.getD,Nat.min_eq_left h]
theorem zpI(ks:List Int)(i j:Nat)(c:Int)(h:i<=ks.length)(D:i<j):(ins ks i c).getD j 0=ks.getD (j-1) 0:=by
 have e:j-i=(j-1-i)+1:=by omega
 simp[ins,List.getD,List.getElem?_append,Nat.min_eq_left h];rw[ya (by omega),e,List.getElem?_cons_succ,List.getElem?_drop,show i+(j-1-i)=j-1 by omega]
theorem zbF{b t n:Nat}:∀ (D:List Value) (o:Nat) (w:World) (F:Nat->Value),w.rowIs b t n F->(w.setCells b o D).rowIs b t n (fun j=>if o<=j/\j<o+D.length then D.getD (j-o) undef else F j)
 | [],o,w,F,h=>h.congr (fun j _=>by rw[ya];simp)
 | v :: r,o,w,F,h=>by
  refine(zbF r (o+1) (w.setCell ⟨b,o,none⟩ v) _ (h.set o v)).congr (fun j _=>?_);by_cases e:j=o
  ·subst e;rw[ya (by omega),yb rfl,yb (by simp)];simp
  ·by_cases E:o+1<=j/\j<o+1+r.length
   ·rw[yb E,yb (by simp;omega),show j-o=(j-(o+1))+1 by omega];simp
   ·rw[ya E,ya e,ya (by simp;omega)]
theorem zbE{X:Nat->Prop}{b:Nat}(D:X b):∀ (F:List Value) (o:Nat) (w:World),Off X w (w.setCells b o F)
 | [],_,w=>Off.refl _ w
 | v :: r,o,w=>by
  have step:Off X w (w.setCell ⟨b,o,none⟩ v):=⟨rfl,rfl,rfl,by simp,fun k _ E=>ys w ⟨b,o,none⟩ v k (fun e=>E (by rw[e];exact D))⟩;exact step.trans (zbE D r (o+1) (w.setCell ⟨b,o,none⟩ v))
theorem Off.drew{X:Nat->Prop}{w w' : World}(h:Off X w w'):Off X w w'.drew:=⟨h.os,h.tape,h.output,h.size,h.block⟩
theorem Off.mono{X Y:Nat->Prop}{w w' : World}(h:Off X w w')(D:∀ k,k<w.heap.size->X k->Y k):Off Y w w' :=⟨h.os,h.tape,h.output,h.size,fun k E I=>h.block k E (fun F=>I (D k E F))⟩
def zgK(w:World)(kb:Nat)(l:List Int)(e:Ending)(w' : World):Prop :=
 ∃ D E,e=.returned (.slice (some ⟨D,0,none⟩) l.length E)/\l.length<=E/\(D=kb\/w.heap.size<=D)/\Off (fun b=>b=kb) w w' /\ ∃ G,w'.rowIs D 3 E G/\∀ j,j<l.length->G j=.int .i64 (l.getD j 0)
theorem zlM{ks:List Int}{j:Nat}{v:Value}(h:(ks.map (Value.int .i64))[j]?=some v):j<ks.length/\v=.int .i64 (ks.getD j 0):=by
 obtain⟨hl,E⟩:=List.getElem?_eq_some_iff.1 h;have D:j<ks.length:=by simpa using hl
 refine⟨D,?_⟩;rw[<- E,List.getElem_map,zae ks 0 D]
theorem zmZ(kb L kc vb i:Nat)(ks:List Int)(E:Int)(w:World)(I:ks.length=L)(hi:i<L)(a6:kc=L)(a7:L<=1000)(G:Nat->Value)(hG:w.rowIs kb 3 kc G)(M:∀ j,j<L->G j=.int .i64 (ks.getD j 0))(F:w.cell? ⟨vb,0,none⟩=some (.int .i64 E)) :
  Calls Tryz.prog 218 #[.slice (some ⟨kb,0,none⟩) L kc,.int .i64 i,.slice (some ⟨vb,0,none⟩) 1 1] w (zgK w kb (ins ks i E)):=by
 have h:=Any2.slices_Insert_int_grow (P:=Tryz.prog) (ρ:=Tryz.lays21_ren) Tryz.lays21 kb 0 L kc i vb 0 1 1 (ks.map (Value.int .i64)) [.int .i64 E] w hi (by omega) (by omega) (by omega) (by omega) (by simpa using I) rfl
  (fun j v D=>by
   obtain⟨h1,rfl⟩:=zlM D;rw[yz,hG.cell (by omega),M j (by omega)])
  (fun j v D=>by
   match j,D with
   | 0,D=>simp at D;subst D;simpa using F)
  (fun v F=>by simp at F;obtain⟨y,_,rfl⟩:=F;rfl) (fun v F=>by simp at F;subst F;rfl)
 refine ye (show Calls Tryz.prog 218 _ _ _ from h) ?_;rintro e w' ⟨rfl,rfl⟩;have a5:=grownCap_ge w (L+1) kc (Tryz.lays21_ren.t 3);have hl:=zfQ ks i E (by omega);generalize grownCap w (L+1) kc (Tryz.lays21_ren.t 3)=cap at *;refine⟨w.heap.size,cap,by rw[hl,I],by omega,Or.inr (yj _),?_,?_⟩
 ·refine Off.mono (X:=fun b=>b=w.heap.size) ?_ (fun k hk e=>by omega);exact(((Off.of_below ((yk _ _).alloc (yj _) _)).drew.trans (zbE (X:=fun b=>b=w.heap.size) rfl _ _ _)).drew).trans (zbE (X:=fun b=>b=w.heap.size) rfl _ _ _)
 ·have hA:(((ks.map (Value.int .i64)).take i).toArray++Builtin.zeroCells (Value.int .i64 0).cells (L+1-i)++Builtin.zeroCells (Value.int .i64 0).cells (cap-(L+1))).size=cap:=by
   simp[size_zeroCells,Value.cells,I];omega
  have J:∀ j,j<i->(((ks.map (Value.int .i64)).take i).toArray++Builtin.zeroCells (Value.int .i64 0).cells (L+1-i)++Builtin.zeroCells (Value.int .i64 0).cells (cap-(L+1)))[j]?=some (.int .i64 (ks.getD j 0)):=fun j D=>by
   have T:j<ks.length:=by omega
   rw[Array.getElem?_append_left (by simp;omega),Array.getElem?_append_left (by simp;omega)];simp[D,T]
  generalize (((ks.map (Value.int .i64)).take i).toArray++Builtin.zeroCells (Value.int .i64 0).cells (L+1-i)++Builtin.zeroCells (Value.int .i64 0).cells (cap-(L+1)))=A at *;have hr:=World.rowIs_alloc w A 3 (fun j=>A[j]?.getD undef) (fun j D=>by simp[D]);rw[hA] at hr;have U:=zbF [.int .i64 E] i _ _ hr.drew;have Z:=zbF ((ks.map (Value.int .i64)).drop i) (i+1) _ _ U.drew;refine⟨_,Z,fun j D=>?_⟩;rw[hl,I] at D;have O:((ks.map (Value.int .i64)).drop i).length=L-i:=by simp[I]
  by_cases h1:i<j
  ·rw[yb (by rw[O];omega),zpI ks i j E (by omega) h1,zae ks 0 (by omega)];have:i+(j-(i+1))=j-1:=by omega
   simp[List.getD,this,show j-1<ks.length by omega]
  ·rw[ya (by omega)];by_cases h2:j=i
   ·subst h2;rw[yb (by simp),ziP ks j E (by omega)];simp
   ·rw[ya (by simp;omega),zlK ks i j E (by omega) (by omega),J j (by omega)];rfl
theorem zoB(kb L kc T:Nat)(ks:List Int)(E:Int)(w:World)(F:ks.length=L)(a5:kc=L)(a6:L<=1000)(G:Nat->Value)(hG:w.rowIs kb 3 kc G)(M:∀ j,j<L->G j=.int .i64 (ks.getD j 0))(J:w.cell? ⟨T,0,none⟩=some (.int .i64 E)) :
  Calls Tryz.prog 218 #[.slice (some ⟨kb,0,none⟩) L kc,.int .i64 L,.slice (some ⟨T,0,none⟩) 1 1] w (zgK w kb (ins ks L E)):=by
 have h:=Any2.slices_Insert_int_end_grow (P:=Tryz.prog) (ρ:=Tryz.lays21_ren) Tryz.lays21 (some ⟨kb,0,none⟩) L kc T 0 1 1 (ks.map (Value.int .i64)) [.int .i64 E] w (by omega) (by omega) (by omega) (by omega) (by simpa using F) rfl (fun h=>by cases h)
  (fun a ha j v D=>by
   cases ha;obtain⟨h1,rfl⟩:=zlM D;rw[Addr.add_lit,yz,hG.cell (by omega),M j (by omega)])
  (fun j v D=>by
   match j,D with
   | 0,D=>simp at D;subst D;simpa using J)
  (fun v J=>by simp at J;subst J;rfl)
 refine ye (show Calls Tryz.prog 218 _ _ _ from h) ?_;rintro e w' ⟨rfl,rfl⟩;have U:=grownCap_ge w (L+1) kc (Tryz.lays21_ren.t 3);have hl:=zfQ ks L E (by omega);generalize grownCap w (L+1) kc (Tryz.lays21_ren.t 3)=cap at *;refine⟨w.heap.size,cap,by rw[hl,F],by omega,Or.inr (yj _),?_,?_⟩
 ·exact Off.of_below ((yk _ _).drew.alloc (yj _) _)
 ·have hA:((ks.map (Value.int .i64)++[Value.int .i64 E]).toArray++Builtin.zeroCells (Value.int .i64 0).cells (cap-(L+1))).size=cap:=by
   simp[size_zeroCells,Value.cells,F];omega
  have I:∀ j,j<L+1->((ks.map (Value.int .i64)++[Value.int .i64 E]).toArray++Builtin.zeroCells (Value.int .i64 0).cells (cap-(L+1)))[j]?=some (.int .i64 ((ins ks L E).getD j 0)):=fun j D=>by
   rw[Array.getElem?_append_left (by simp;omega)];by_cases e:j=L
   ·rw[e,ziP ks L E (by omega),<- F];simp
   ·have O:j<ks.length:=by omega
    rw[zlK ks L j E (by omega) (by omega)];simp[List.getElem?_append,O]
  generalize ((ks.map (Value.int .i64)++[Value.int .i64 E]).toArray++Builtin.zeroCells (Value.int .i64 0).cells (cap-(L+1)))=A at *;have Z:=World.rowIs_alloc w.drew A 3 (fun j=>A[j]?.getD undef) (fun j D=>by simp[D]);rw[hA] at Z;refine⟨_,Z,fun j D=>?_⟩;rw[hl,F] at D;rw[I j D];rfl
theorem zna(kb L kc M:Nat)(ks:List Int)(E:Int)(w:World)(O:ks.length=L)(T:L+1<=kc)(U:kc<=1000000000)(G:Nat->Value)(I:w.rowIs kb 3 kc G)(J:∀ j,j<L->G j=.int .i64 (ks.getD j 0))(F:w.cell? ⟨M,0,none⟩=some (.int .i64 E)) :
  Calls Tryz.prog 218 #[.slice (some ⟨kb,0,none⟩) L kc,.int .i64 L,.slice (some ⟨M,0,none⟩) 1 1] w (zgK w kb (ins ks L E)):=by
 have h:=Any2.slices_Insert_int_end_room (P:=Tryz.prog) (ρ:=Tryz.lays21_ren) Tryz.lays21 kb 0 L kc M 0 1 1 [.int .i64 E] w (by omega) (by omega) (by omega) rfl
  (fun j D=>by rw[I.cell (by omega)];rfl) (fun j _=>I.frozen _)
  (fun j v D=>by
   match j,D with
   | 0,D=>simp at D;subst D;simpa using F)
  (fun v F=>by simp at F;subst F;rfl)
 refine ye (show Calls Tryz.prog 218 _ _ _ from h) ?_;rintro e w' ⟨rfl,rfl⟩;have hl:=zfQ ks L E (by omega);refine⟨kb,kc,by rw[hl,O],by omega,Or.inl rfl,zbE (X:=fun b=>b=kb) rfl _ _ _,_,zbF _ _ _ _ I,fun j D=>?_⟩;rw[hl,O] at D;by_cases e:j=L
 ·rw[yb (by simp;omega),e,ziP ks L E (by omega)];simp
 ·rw[ya (by simp;omega),zlK ks L j E (by omega) (by omega),J j (by omega)]
theorem zlL(kb L kc I i:Nat)(ks:List Int)(F:Int)(w:World)(T:ks.length=L)(hi:i<L)(a7:L+1<=kc)(a8:kc<=1000000000)(G:Nat->Value)(J:w.rowIs kb 3 kc G)(M:∀ j,j<L->G j=.int .i64 (ks.getD j 0))(a5:I≠kb)(E:w.heap[I]?=some (.cells #[.int .i64 F] 3 (0,0))) :
  Calls Tryz.prog 218 #[.slice (some ⟨kb,0,none⟩) L kc,.int .i64 i,.slice (some ⟨I,0,none⟩) 1 1] w (zgK w kb (ins ks i F)):=by
 have a6:w.cell? ⟨I,0,none⟩=some (.int .i64 F):=by simp[World.cell?,E]
 have O:∀ o,w.frozen? ⟨I,o,none⟩=false:=fun o=>by simp[World.frozen?,E]
 have Z:w.shape? kb=some (3,kc):=by
  obtain⟨c,hc,hs,_⟩:=J;simp[World.shape?,hc,hs]
 have h:=Any2.slices_Insert_int_shift (P:=Tryz.prog) (ρ:=Tryz.lays21_ren) Tryz.lays21 kb 0 L kc i I 0 1 1 (ks.map (Value.int .i64)) [.int .i64 F] w hi (by omega) (by omega) (by omega) a5 (by simpa using T) rfl
  (fun j v D=>by
   obtain⟨h1,rfl⟩:=zlM D;rw[yz,J.cell (by omega),M j (by omega)])
  (fun j D=>by rw[J.cell (by omega)];rfl) (fun j _=>J.frozen _)
  (fun j v D=>by
   match j,D with
   | 0,D=>simp at D;subst D;simpa using a6)
  (fun v E=>by simp at E;obtain⟨y,_,rfl⟩:=E;rfl) (fun v E=>by simp at E;subst E;rfl)
  3 3 1 kc (by simp[World.shape?,E]) Z (by omega) (O _) (O _)
 refine ye (show Calls Tryz.prog 218 _ _ _ from h) ?_;rintro e w' ⟨rfl,rfl⟩;have hl:=zfQ ks i F (by omega);refine⟨kb,kc,by rw[hl,T],by omega,Or.inl rfl,(Off.refl _ _).drew.trans ((zbE (X:=fun b=>b=kb) rfl _ _ _).trans (zbE (X:=fun b=>b=kb) rfl _ _ _)),_,zbF _ _ _ _ (zbF _ _ _ _ J.drew),fun j D=>?_⟩;rw[hl,T] at D;have U:((ks.map (Value.int .i64)).drop i).length=L-i:=by simp[T]
 by_cases h2:j=i
 ·subst h2;rw[yb (by simp),ziP ks j F (by omega)];simp
 ·rw[ya (by simp;omega)];by_cases h1:i<j
  ·rw[yb (by rw[U];omega),zpI ks i j F (by omega) h1,zae ks 0 (by omega)];simp[List.getD];rw[show i+(j-(i+1))=j-1 by omega];simp[show j-1<ks.length by omega]
  ·rw[ya (by omega),zlK ks i j F (by omega) (by omega),M j (by omega)]
theorem zoA(kb L kc E i:Nat)(ks:List Int)(F:Int)(w:World)(M:ks.length=L)(hi:i<=L)(Z:L<=kc)(a5:kc<=1000)(G:Nat->Value)(J:w.rowIs kb 3 kc G)(D:∀ j,j<L->G j=.int .i64 (ks.getD j 0))(T:E≠kb)(U:w.heap[E]?=some (.cells #[.int .i64 F] 3 (0,0))) :
  Calls Tryz.prog 218 #[.slice (some ⟨kb,0,none⟩) L kc,.int .i64 i,.slice (some ⟨E,0,none⟩) 1 1] w (zgK w kb (ins ks i F)):=by
 have I:w.cell? ⟨E,0,none⟩=some (.int .i64 F):=by simp[World.cell?,U]
 by_cases h1:i=L
 ·subst h1;by_cases O:kc=i
  ·exact zoB kb i kc E ks F w M O (by omega) G J D I
  ·exact zna kb i kc E ks F w M (by omega) (by omega) G J D I
 ·by_cases O:kc=L
  ·exact zmZ kb L kc E i ks F w M (by omega) O (by omega) G J D I
  ·exact zlL kb L kc E i ks F w M (by omega) (by omega) (by omega) G J D T U
theorem zro{w:World}{g:Nat}{S:List Nd}{F:Nat->Value}(D:w.rowIs g 57 (S.length*8) F)
  (h:∀ i,i<S.length->F (i*8)=.bool (nd S i).u/\F (i*8+1)=.int .i64 (nd S i).n/\F (i*8+2)=.int .i64 (nd S i).t/\F (i*8+3)=.int .i64 (nd S i).m/\F (i*8+4)=.int .i64 (nd S i).p/\(∃ ka kc,F (i*8+5)=.slice ka (nd S i).ks.length kc/\zaj w ka (nd S i).ks)/\F (i*8+6)=.int .i64 (nd S i).h/\F (i*8+7)=.bool (nd S i).c) :
  zah w (some ⟨g,0,none⟩) S:=fun i hi=>by
 obtain⟨E,I,J,M,O,⟨ka,kc,T,hk⟩,U,Z⟩:=h i hi;refine⟨g,0,rfl,?_⟩;rw[yz];refine⟨?_,?_,?_,?_,?_,⟨ka,kc,?_,hk⟩,?_,?_⟩
 ·rw[D.cell (by omega),E]
 ·rw[D.cell (by omega),I]
 ·rw[D.cell (by omega),J]
 ·rw[D.cell (by omega),M]
 ·rw[D.cell (by omega),O]
 ·rw[D.cell (by omega),T]
 ·rw[D.cell (by omega),U]
 ·rw[D.cell (by omega),Z]
theorem zbO{w:World}{kb kc:Nat}{ks:List Int}{G:Nat->Value}(D:w.rowIs kb 3 kc G)(hl:ks.length<=kc)(h:∀ j,j<ks.length->G j=.int .i64 (ks.getD j 0)):zaj w (some ⟨kb,0,none⟩) ks:=fun j E =>
 ⟨kb,0,rfl,by rw[yz,D.cell (by omega),h j E]⟩
def zgp(S:List Nd)(pa D i:Nat)(j:Nat):Nd :=
 if j=D then ⟨(nd S D).u,(nd S D).n,(nd S D).t,(nd S D).m,pa,(nd S D).ks,(nd S D).h,(nd S D).c⟩
 else if j=pa then ⟨(nd S pa).u,(nd S pa).n,(nd S pa).t,(nd S pa).m,(nd S pa).p,ins (nd S pa).ks i D,(nd S pa).h,(nd S pa).c⟩
 else nd S j
def zbj(S:List Nd)(pa D i:Nat):List Nd:=(List.range S.length).map (zgp S pa D i)
theorem zbk(S:List Nd)(pa D i:Nat):(zbj S pa D i).length=S.length:=by simp[zbj]
theorem zfv(S:List Nd)(pa D i j:Nat)(E:j<S.length):nd (zbj S pa D i) j=zgp S pa D i j:=by
 rw[zbi (by rw[zbk];exact E)];simp[zbj]
def atS(ks:List Int):List (Int × Int)->Int
 | []=>ks.length
 | h :: _=>idx ks h.1
theorem zol{w w2:World}{B g:Nat}{S:List Nd}{kb kc:Nat->Nat}(hO:Own w B g S kb kc S.length){W:World}(hb:Below w.heap.size w W){pa E i D I:Nat}(hpa:pa<S.length)(hch:E<S.length)(b2:pa≠E)
  (hi:i<=(nd S pa).ks.length) (a6:D=kb pa\/W.heap.size<=D) (a7:Off (fun b=>b=kb pa) W w2) {G:Nat->Value} (hG:w2.rowIs D 3 I G) (b1:(ins (nd S pa).ks i E).length<=I) (a8:∀ j,j<(ins (nd S pa).ks i E).length->G j=.int .i64 ((ins (nd S pa).ks i E).getD j 0)) :
  ∀ w3:World,(∀ b,g<=b->w3.heap[b]?=((w2.setCell ⟨g,pa*8+5,none⟩ (.slice (some ⟨D,0,none⟩) (ins (nd S pa).ks i E).length I)).setCell ⟨g,E*8+4,none⟩ (.int .i64 pa)).heap[b]?)->zah w3 (some ⟨g,0,none⟩) (zbj S pa E i):=by
 intro w3 O;obtain⟨_,F,hF,hN,hg,hd⟩:=hO;have a9:=hF.lt;have hW:∀ b,b<w.heap.size->b≠kb pa->w2.heap[b]?=w.heap[b]?:=fun b h1 U=>(a7.block b (yx h1 hb.size) U).trans (hb.block b h1);have a5:g≠kb pa:=by have:=hg pa hpa;omega
 have Z:=(((hF.of_block (hW g a9 a5)).set (pa*8+5) (.slice (some ⟨D,0,none⟩) (ins (nd S pa).ks i E).length I)).set (E*8+4) (.int .i64 pa)).of_block (O g (yj _))
 have b0:D≠g:=by
  rcases a6 with h|h
  ·rw[h];exact fun e=>a5 e.symm
  ·have:=hb.size;omega
 have T:g<=D:=by
  rcases a6 with h|h
  ·rw[h];exact Nat.le_of_lt (hg pa hpa)
  ·have:=hb.size;omega
 rw[<- zbk S pa E i] at Z;refine zro Z (fun j J=>?_);rw[zbk] at J;rw[zfv S pa E i j J];obtain⟨e0,e1,e2,e3,e4,e5,e6,e7,e8,b3,G0,M,e9⟩:=hN j J;unfold zgp;by_cases h1:j=E
 ·subst h1;rw[yb rfl]
  have hr:w3.rowIs (kb j) 3 (kc j) G0 :=
   (((M.of_block (hW (kb j) M.lt (fun e=>b2 (hd pa hpa j J e.symm)))).setOther (by have:=hg j J;simp;omega) _).setOther (by have:=hg j J;simp;omega) _).of_block (O (kb j) (Nat.le_of_lt (hg j J)))
  refine⟨?_,?_,?_,?_,?_,⟨some ⟨kb j,0,none⟩,kc j,?_,zbO hr e8 e9⟩,?_,?_⟩
  all_goals dsimp only
  ·rw[ya (by omega),ya (by omega),e0]
  ·rw[ya (by omega),ya (by omega),e1]
  ·rw[ya (by omega),ya (by omega),e2]
  ·rw[ya (by omega),ya (by omega),e3]
  ·rw[yb rfl]
  ·rw[ya (by omega),ya (by omega),e5]
  ·rw[ya (by omega),ya (by omega),e6]
  ·rw[ya (by omega),ya (by omega),e7]
 ·rw[ya h1];by_cases U:j=pa
  ·subst U;rw[yb rfl];have hr:=((hG.setOther (a:=⟨g,j*8+5,none⟩) (by simp;omega) (.slice (some ⟨D,0,none⟩) (ins (nd S j).ks i E).length I)).setOther (a:=⟨g,E*8+4,none⟩) (by simp;omega) (.int .i64 j)).of_block (O D T);refine⟨?_,?_,?_,?_,?_,⟨some ⟨D,0,none⟩,I,?_,zbO hr b1 a8⟩,?_,?_⟩
   all_goals dsimp only
   ·rw[ya (by omega),ya (by omega),e0]
   ·rw[ya (by omega),ya (by omega),e1]
   ·rw[ya (by omega),ya (by omega),e2]
   ·rw[ya (by omega),ya (by omega),e3]
   ·rw[ya (by omega),ya (by omega),e4]
   ·rw[ya (by omega),yb rfl]
   ·rw[ya (by omega),ya (by omega),e6]
   ·rw[ya (by omega),ya (by omega),e7]
  ·rw[ya U]
   have hr:w3.rowIs (kb j) 3 (kc j) G0 :=
    (((M.of_block (hW (kb j) M.lt (fun e=>U (hd j J pa hpa e)))).setOther (by have:=hg j J;simp;omega) _).setOther (by have:=hg j J;simp;omega) _).of_block (O (kb j) (Nat.le_of_lt (hg j J)))
   refine⟨?_,?_,?_,?_,?_,⟨some ⟨kb j,0,none⟩,kc j,?_,zbO hr e8 e9⟩,?_,?_⟩
   all_goals
    rw[ya (by omega),ya (by omega)];assumption
theorem WF.kid_deep{S:List Nd}(h:WF S){f p:Nat}(M:p<S.length)(J:Deep S (f+1) p){x:Int}(D:x ∈ (nd S p).ks) :
  ∃ k:Nat,x=k/\k<S.length/\(nd S k).u=true/\(nd S k).p=p/\zal (nd S k)=p/\Deep S f k:=by
 obtain⟨k,rfl,h1,E,F,I⟩:=h.kid M D;have:=(J (k:Int) D).2;rw[yi] at this;exact⟨k,rfl,h1,E,F,I,this⟩
theorem zcs{S:List Nd}(h:WF S):∀ {f p:Nat},p<S.length->Deep S f p->∀ x ∈ zaW S f p,∃ q:Nat,x=q/\q<S.length/\(q=p\/(nd S q).u=true)/\∃ j,j<=f/\Up S j q p
 | 0,p,E,_,x,D=>by
  have:x=(p:Int):=by simpa [zaW] using D
  exact⟨p,this,E,Or.inl rfl,0,yj _,rfl⟩
 | f+1,p,E,O,x,D=>by
  simp only[zaW,List.mem_cons,List.mem_flatMap] at D;rcases D with rfl |⟨k,T,D⟩
  ·exact⟨p,rfl,E,Or.inl rfl,0,by omega,rfl⟩
  ·obtain⟨k,rfl,h1,J,Z,M,h5⟩:=h.kid_deep E O T;rw[yi] at D;obtain⟨q,e,U,F,j,hj,I⟩:=zcs h h1 h5 x D;refine⟨q,e,U,Or.inr ?_,j+1,by omega,I.trans (WF.up_one E M)⟩;rcases F with rfl|F
   ·exact J
   ·exact F
theorem zhN{α β:Type}(g:α->List β):∀ (ks:List α),ks.Nodup->(∀ k ∈ ks,(g k).Nodup)->(∀ k ∈ ks,∀ k' ∈ ks,k≠k' -> ∀ x ∈ g k,x ∉ g k')->(ks.flatMap g).Nodup
 | [],_,_,_=>by simp
 | k :: ks,hn,hg,hd=>by
  rw[List.flatMap_cons,List.nodup_append];obtain⟨h1,F⟩:=List.nodup_cons.1 hn;refine⟨hg k (by simp),zhN g ks F (fun k' D=>hg k' (by simp[D])) (fun a ha b I=>hd a (by simp[ha]) b (by simp[I])),fun x J y E e=>?_⟩;obtain⟨k', D,E⟩:=List.mem_flatMap.1 E;exact hd k (by simp) k' (by simp[D]) (fun e=>h1 (by rw[e];exact D)) x J (by rw[e];exact E)
theorem zmE(S:List Nd)(j:Nat):∀ {k k' : Nat},k<=k' -> k' <= S.length->zhs S k j<=zhs S k' j:=by
 intro k k' D
 induction D with
 | refl=>intro _;exact yj _
 | step _ E =>
  intro h;rw[zfj S _ j (by omega)];have:=E (by omega);omega
theorem WF.kids_nodup{S:List Nd}(h:WF S){i:Nat}(hi:i<S.length):(nd S i).ks.Nodup:=by
 rw[List.nodup_iff_count];intro x;by_cases D:x ∈ (nd S i).ks
 ·obtain⟨k,rfl,E,_⟩:=h.kid hi D;have h1:=(h.kids.2 k E).1;have F:=zfj S i k hi;have I:=zmE S k (k:=i+1) (k' := S.length) (by omega) (yj _);omega
 ·rw[List.count_eq_zero.2 D];omega
theorem WF.in_kids{S:List Nd}(h:WF S){k:Nat}(F:k<S.length){y:Nat}(M:(nd S k).p=y):y<S.length/\(k:Int) ∈ (nd S y).ks:=by
 have hc:=(h.kids.2 k F).2 (by omega);unfold zhs at hc;rw[List.take_length] at hc
 have E:(k:Int) ∈ S.flatMap Nd.ks:=by
  by_cases E:(k:Int) ∈ S.flatMap Nd.ks
  ·exact E
  ·exact absurd (List.count_eq_zero.2 E) hc
 obtain⟨x,I,D⟩:=List.mem_flatMap.1 E;obtain⟨i,hi,rfl⟩:=List.getElem_of_mem I;rw[<- zbi hi] at D;obtain⟨k', e,_,_,J,_⟩:=h.kid hi D;have:k' = k:=by omega
 subst this;have:y=i:=by omega
 subst this;exact⟨hi,D⟩
theorem zeJ{S:List Nd}(h:WF S):∀ {f p:Nat},p<S.length->f<=S.length->Deep S f p->(zaW S f p).Nodup
 | 0,p,_,_,_=>by simp[zaW]
 | f+1,p,D,hf,T=>by
  simp only[zaW];rw[List.nodup_cons];refine⟨fun U=>?_,zhN _ _ (h.kids_nodup D) (fun x J=>?_) (fun x J y hy a9 z hz M=>?_)⟩
  ·obtain⟨x,J,U⟩:=List.mem_flatMap.1 U;obtain⟨k,rfl,h1,h2,h3,O,h5⟩:=h.kid_deep D T J;rw[yi] at U;obtain⟨q,e,hq,_,j,hj,E⟩:=zcs h h1 h5 _ U;have:q=p:=by omega
   subst this;exact h.no_ring D (j:=j+1) (by omega) (by omega) (E.trans (WF.up_one D O))
  ·obtain⟨k,rfl,h1,h2,h3,O,h5⟩:=h.kid_deep D T J;rw[yi];exact zeJ h h1 (by omega) h5
  ·obtain⟨k,rfl,h1,h2,h3,O,h5⟩:=h.kid_deep D T J;obtain⟨k', rfl,Z,b0,b1,a5,a6⟩:=h.kid_deep D T hy;rw[yi] at hz M;obtain⟨q,e,hq,_,j,hj,E⟩:=zcs h h1 h5 _ hz;obtain⟨q', e', b3,_,F,b2,I⟩:=zcs h Z a6 _ M;have:q=q' := by omega
   subst this;have u1:=E.trans (WF.up_one D O);have u2:=I.trans (WF.up_one D a5)
   have a7:j=F:=by
    rcases Nat.lt_trichotomy j F with a8|e|a8
    ·obtain⟨y,v1,v2⟩:=Up.split (i:=j+1) (j:=F-j) (by rw[show j+1+(F-j)=F+1 by omega];exact u2);have:=Up.det v1 u1;subst this;exact absurd v2 (h.no_ring D (by omega) (by omega))
    ·exact e
    ·obtain⟨y,v1,v2⟩:=Up.split (i:=F+1) (j:=j-F) (by rw[show F+1+(j-F)=j+1 by omega];exact u1);have:=Up.det v1 u2;subst this;exact absurd v2 (h.no_ring D (by omega) (by omega))
   subst a7;exact a9 (by rw[Up.det E I])
theorem zfT{S:List Nd}(h:WF S){p:Nat}(D:p<S.length):(zaW S S.length p).length<=S.length:=by
 have h1:=zeJ h D (yj _) (h.deep_all D)
 have:=h1.length_le_of_subset (l₂:=(List.range S.length).map (fun i:Nat=>(i:Int))) (fun x F=>by
  obtain⟨q,rfl,E,_⟩:=zcs h D (h.deep_all D) x F;exact List.mem_map.2 ⟨q,List.mem_range.2 E,rfl⟩)
 simpa using this
def Par(S:List Nd):List Int->List Int->Prop
 | _,[]=>True
 | seen,x :: r=>(nd S x.toNat).p ∈ seen/\Par S (seen++[x]) r
theorem Par.append{S:List Nd}:∀ {a b seen:List Int},Par S seen a->Par S (seen++a) b->Par S seen (a++b)
 | [],b,seen,_,D=>by simpa using D
 | x :: a,b,seen,⟨h1,E⟩,D=>⟨h1,Par.append E (by simpa using D)⟩
theorem Par.flat{S:List Nd}{p:Int}(g:Int->List Int):∀ (ks seen:List Int),p ∈ seen->(∀ k ∈ ks,∀ D,p ∈ D->Par S D (g k))->Par S seen (ks.flatMap g)
 | [],_,_,_=>trivial
 | k :: ks,seen,F,hg=>by
  rw[List.flatMap_cons];exact Par.append (hg k (by simp) seen F) (Par.flat g ks _ (by simp[F]) (fun k' E=>hg k' (by simp[E])))
theorem znr{S:List Nd}(h:WF S):∀ {f p:Nat} {seen:List Int},p<S.length->Deep S f p->(nd S p).p ∈ seen->Par S seen (zaW S f p)
 | 0,p,seen,_,_,D=>⟨by simpa using D,trivial⟩
 | f+1,p,seen,J,I,D=>by
  refine⟨by simpa using D,Par.flat (p:=(p:Int)) _ _ _ (by simp) (fun x M E hs=>?_)⟩;obtain⟨k,rfl,h1,O,F,T,h5⟩:=h.kid_deep J I M;rw[yi];exact znr h h1 h5 (by rw[F];exact hs)
theorem zwH{S:List Nd}(h:WF S){f p:Nat}(I:p<S.length)(F:Deep S f p):∃ r,zaW S f p=(p:Int) :: r/\Par S [(p:Int)] r:=by
 cases f with
 | zero=>exact⟨[],rfl,trivial⟩
 | succ f =>
  refine⟨_,rfl,Par.flat (p:=(p:Int)) _ _ _ (by simp) (fun x J D hs=>?_)⟩;obtain⟨k,rfl,h1,M,E,O,h5⟩:=h.kid_deep I F J;rw[yi];exact znr h h1 h5 (by rw[E];exact hs)
theorem Par.get{S:List Nd}:∀ {r seen:List Int} {i:Nat},Par S seen r->i<r.length->(nd S (r.getD i 0).toNat).p ∈ seen++r.take i
 | x :: r,seen,0,⟨h1,_⟩,_=>by simpa using h1
 | x :: r,seen,i+1,⟨_,D⟩,hi=>by
  have:=Par.get D (i:=i) (by simpa using hi);simpa using this
theorem zxy{S:List Nd}(h:WF S):∀ {f p:Nat},p<S.length->Deep S f p->∀ y ∈ zaW S f p,∀ k ∈ (nd S y.toNat).ks,k ∈ zaW S f p
 | 0,p,_,F,y,E,k,D=>by
  have:y=(p:Int):=by simpa [zaW] using E
  subst this;rw[yi,show (nd S p).ks=[] from F] at D;cases D
 | f+1,p,I,F,y,E,k,D=>by
  simp only[zaW,List.mem_cons,List.mem_flatMap] at E |-;right;rcases E with rfl |⟨x,J,E⟩
  ·rw[yi] at D;obtain⟨k', rfl,h1,M,O,T,h5⟩:=h.kid_deep I F D;refine⟨_,D,?_⟩;rw[yi]
   cases f <;> simp[zaW]
  ·obtain⟨k', rfl,h1,M,O,T,h5⟩:=h.kid_deep I F J;rw[yi] at E;refine⟨_,J,?_⟩;rw[yi];exact zxy h h1 h5 y E k D
def zaN(S:List Nd)(p:Nat):List Int:=zaW S S.length p
end Go.Proofs.YtcbcpomacdngmaaGreat
