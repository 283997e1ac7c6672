/-
  x
-/
import Derived.Test.YtcbcpomacdngmaaGreatM6
import Derived.Lib.AppendZerosOnto
import Derived.Lib.SliceRun
import Derived.Lib.Walk
import Derived.BigQuiet
import Derived.Laws.StructEq
import Derived.Shelf.SlGeneric
import Derived.Shelf.Spec.SlicesInsertGrow
import Derived.Ground.Names2Prog
import Derived.Ground.SlgfProg
import Derived.Shelf.SlicesE.DeleteFunc
namespace Go.Proofs.YtcbcpomacdngmaaGreat
set_option maxRecDepth 100000
set_option maxHeartbeats 4000000
set_option linter.unusedVariables false
open Go.RowKit Go.Shelf
def ziU(S:List Nd)(D pa:Nat):Bool:=decide ((nd S D).h = -1) && (!decide ((pa:Int)=D) && !zbv S pa D)
theorem zlw(a:Option Addr)(c:Nat)(S:List Nd)(D pa:Nat)(w:World)(hN:S.length<=9223372036854775807)(hc:D<S.length)(F:zah w a S) :
  yL 205 #[.agg #[.slice a S.length c],.int .i64 D,.int .i64 pa] w fun e w' => e=.returned (.bool (ziU S D pa))/\Below w.heap.size w w' := by
 unfold ziU;have J:=fun(W:World) (hW:zah W a S)=>znu a c S pa D W hN hW;have O:Hid _:=J;have T:Hid (zah w a S):=F;have a6:(D:Int)<(S.length:Int):=by omega
 obtain⟨b,o,rfl,c0,_,_,_,_,_,c6,_⟩:=F D hc;have a5:=yd _ _ c0;clear F J;generalize zbv S pa D=U at *;generalize (nd S D).h=hh at *;generalize S.length=n at *;by_cases h1:hh = -1
 ·subst h1;by_cases E:(pa:Int)=D
  ·have e:decide ((pa:Int)=D)=true:=yF E;have h3:pa=D:=(by omega);subst h3;rw[e];simp only[decide_true,Bool.not_true,Bool.false_and,Bool.and_false]
   go_enter Tryz.func205,Tryz.ntmps205
   go_wp2
   go_ret;exact⟨rfl,(yk _ _).alloc (yj _) _⟩
  ·have e:decide ((pa:Int)=D)=false:=yE E;rw[e];have M:((pa:Int) ==(D:Int))=false:=beq_eq_false_iff_ne.2 E;have e2:((pa:Int) !=(D:Int))=true:=(by simp[bne,M]);have Z:¬ pa=D:=(by omega);simp only[decide_true,Bool.not_false,Bool.true_and];cases U
   all_goals
    go_enter Tryz.func205,Tryz.ntmps205
    go_wp2_with (go_at_call 128;refine(O.out _ (T.out.below ((yk _ _).alloc (yj _) _))).mono ?_;rintro e w1 ⟨rfl,I⟩)
    go_ret;exact⟨rfl,((yk _ _).alloc (yj _) _).trans (I.mono (by simp))⟩
 ·have e:decide (hh = -1)=false:=yE h1;have M:(hh == -1)=false:=beq_eq_false_iff_ne.2 h1;rw[e];simp only[Bool.false_and]
  go_enter Tryz.func205,Tryz.ntmps205
  go_wp2
  go_ret;exact⟨rfl,(yk _ _).alloc (yj _) _⟩
theorem zof(ha:Option Addr)(hc:Nat)(hs:List (Int × Int))(p u:Int)(w:World)(hL:hs.length<=9223372036854775807)(hH:zaw w ha hs) :
  yL 216 #[.slice ha hs.length hc,.agg #[.int .i64 p,.int .i64 u]] w fun e w' => ∃ r:Int,e=.returned (.int .i64 r)/\Below w.heap.size w w' /\((0<=r)↔(p,u) ∈ hs):=by
 have HH:Hid (zaw w ha hs):=hH;have IN:Hid (∀ k,k<hs.length->hs.getD k (0,0)=(p,u)->(p,u) ∈ hs):=fun k hk h=>by rw[<- h,zae hs _ hk];exact List.getElem_mem hk
 have a5:Hid ((∀ k,k<hs.length->hs.getD k (0,0)≠(p,u))->(p,u) ∉ hs):=fun h J=>by
  obtain⟨i,hi,e⟩:=List.getElem_of_mem J;exact h i hi (by rw[zae hs _ hi];exact e)
 clear hH;generalize J:hs.length=m at *;have HM:Hid _:=J;clear J;generalize ((p,u) ∈ hs)=Q at *
 go_enter Tryz.func216,Tryz.ntmps216
 go_wp2
 go_loopg [8] m (fun g s8 wr=>∃ k:Nat,k<=m/\m-k<=g/\s8=.int .i64 k/\Below (w.heap.size+1) (w.alloc (.cells #[.int .i64 p,.int .i64 u] 61)) wr/\Hid (∀ i,i<k->hs.getD i (0,0)≠(p,u)))
 case atStart=>exact⟨0,by omega,by omega,rfl,yk _ _,(show Hid _ from fun i hi=>absurd hi (yw _))⟩
 case round =>
  obtain⟨k,hk,hg,rfl,E,A⟩:=hrel;have D:Below w.heap.size w wr:=((yk _ _).alloc (yj _) _).trans (E.mono (by omega));have x0:wr.cell? ⟨w.heap.size,0,none⟩=some (.int .i64 p):=(E.cell (by simp)).trans (by go_simp);have x1:wr.cell? ⟨w.heap.size,1,none⟩=some (.int .i64 u):=(E.cell (by simp)).trans (by go_simp);by_cases F:k<m
  ·have a6:(k:Int)<(m:Int):=(by omega);obtain⟨b,o,rfl,c0,c1⟩:=(HH.out.below D) k (by rw[HM.out];exact F);generalize hy:hs.getD k (0,0)=y at *;obtain⟨M,O⟩:=y;dsimp only at c0 c1;have T:Hid _:=hy;clear hy;by_cases I:p=M
   ·by_cases e2:u=O
    ·subst I;subst e2;have Z:Hid _:=IN.out k F T.out
     go_wp2_with fail
     go_quiet (fail)
     go_wp2
     go_ret;exact⟨k,rfl,Below.drewNs D _,fun _=>Z.out,fun _=>by omega⟩
    ·have e3:(u == O)=false:=beq_eq_false_iff_ne.2 e2;have U:Hid ((M,O)≠(p,u)):=fun h=>e2 (by cases h;rfl);subst I
     go_wp2_with fail
     go_quiet (fail)
     go_wp2
     go_roundg (m-(k+1))
     case measure=>omega
     case rel =>
      refine⟨k+1,by omega,by omega,by go_num,Below.drewNs E _,(show Hid _ from fun i hi=>?_)⟩;by_cases e:i=k
      ·rw[e,T.out];exact U.out
      ·exact A.out i (by omega)
   ·have e3:(p == M)=false:=beq_eq_false_iff_ne.2 I;have U:Hid ((M,O)≠(p,u)):=fun h=>I (by cases h;rfl)
    go_wp2_with fail
    go_quiet (fail)
    go_wp2
    go_roundg (m-(k+1))
    case measure=>omega
    case rel =>
     refine⟨k+1,by omega,by omega,by go_num,Below.drewNs E _,(show Hid _ from fun i hi=>?_)⟩;by_cases e:i=k
     ·rw[e,T.out];exact U.out
     ·exact A.out i (by omega)
  ·have:k=m:=(by omega);subst this;have Z:Hid _:=a5.out A.out
   go_wp2
   go_ret;exact⟨-1,rfl,D,fun h=>by omega,fun h=>absurd h Z.out⟩
def Tryz.lays21_ren:Go.Shelf.Ren:=⟨fun|21=>218|27=>224|28=>225|35=>227|39=>228|n=>n,fun|22=>48|3=>3|4=>4|0=>0|n=>n,fun|n=>n⟩
theorem Tryz.lays21:Go.Proofs.Lays2.n21 Tryz.prog Tryz.lays21_ren:={
 mixed:=by kernel_rfl
 f21:=Tryz.func218.trans (congrArg some (by kernel_rfl))
 f27:=Tryz.func224.trans (congrArg some (by kernel_rfl))
 f28:=Tryz.func225.trans (congrArg some (by kernel_rfl))
 f35:=Tryz.func227.trans (congrArg some (by kernel_rfl))
 f39:=Tryz.func228.trans (congrArg some (by kernel_rfl))
 t0:=Tryz.underlying0
 a0:=Tryz.isAgg0
 z0:=Tryz.sizeOf0
 v0:=Tryz.zeroValue0
 t3:=Tryz.underlying3
 a3:=Tryz.isAgg3
 z3:=Tryz.sizeOf3
 v3:=Tryz.zeroValue3
 t4:=Tryz.underlying4
 a4:=Tryz.isAgg4
 z4:=Tryz.sizeOf4
 v4:=Tryz.zeroValue4
 t22:=Tryz.underlying48
 a22:=Tryz.isAgg48
 z22:=Tryz.sizeOf48
 v22:=Tryz.zeroValue48
 i3:=by kernel_rfl }
def ins(ks:List Int)(i:Nat)(c:Int):List Int:=ks.take i++c :: ks.drop i
theorem zfI(ks:List Int)(i:Nat)(c:Int)(h:i<=ks.length):(ins ks i c).length=ks.length+1:=by
 simp[ins];omega
theorem zlz(ks:List Int)(i j:Nat)(c:Int)(h:i<=ks.length)(D:j<i):(ins ks i c).getD j 0=ks.getD j 0:=by
 simp[ins,List.getD,List.getElem?_append,D];rw[yb (by omega)]
theorem ziF(ks:List Int)(i:Nat)(c:Int)(h:i<=ks.length):(ins ks i c).getD i 0=c:=by
 simp[ins,List.getD,Nat.min_eq_left h]
theorem zpn(ks:List Int)(i j:Nat)(c:Int)(h:i<=ks.length)(D:i<j):(ins ks i c).getD j 0=ks.getD (j-1) 0:=by
 have e:j-i=(j-1-i)+1:=by omega
 simp[ins,List.getD,List.getElem?_append,Nat.min_eq_left h];rw[ya (by omega),e,List.getElem?_cons_succ,List.getElem?_drop,show i+(j-1-i)=j-1 by omega]
theorem zbI{b t n:Nat}:∀ (D:List Value) (o:Nat) (w:World) (F:Nat->Value),w.rowIs b t n F->(w.setCells b o D).rowIs b t n (fun j=>if o<=j/\j<o+D.length then D.getD (j-o) undef else F j)
 | [],o,w,F,h=>h.congr (fun j _=>by rw[ya];simp)
 | v :: r,o,w,F,h=>by
  refine(zbI r (o+1) (w.setCell ⟨b,o,none⟩ v) _ (h.set o v)).congr (fun j _=>?_);by_cases e:j=o
  ·subst e;rw[ya (by omega),yb rfl,yb (by simp)];simp
  ·by_cases E:o+1<=j/\j<o+1+r.length
   ·rw[yb E,yb (by simp;omega),show j-o=(j-(o+1))+1 by omega];simp
   ·rw[ya E,ya e,ya (by simp;omega)]
theorem zbH{X:Nat->Prop}{b:Nat}(D:X b):∀ (F:List Value) (o:Nat) (w:World),Off X w (w.setCells b o F)
 | [],_,w=>Off.refl _ w
 | v :: r,o,w=>by
  have step:Off X w (w.setCell ⟨b,o,none⟩ v):=⟨rfl,rfl,rfl,by simp,fun k _ E=>ys w ⟨b,o,none⟩ v k (fun e=>E (by rw[e];exact D))⟩;exact step.trans (zbH D r (o+1) (w.setCell ⟨b,o,none⟩ v))
theorem Off.drew{X:Nat->Prop}{w w' : World}(h:Off X w w'):Off X w w'.drew:=⟨h.os,h.tape,h.output,h.size,h.block⟩
theorem Off.mono{X Y:Nat->Prop}{w w' : World}(h:Off X w w')(D:∀ k,k<w.heap.size->X k->Y k):Off Y w w' :=⟨h.os,h.tape,h.output,h.size,fun k E I=>h.block k E (fun F=>I (D k E F))⟩
def zgD(w:World)(kb:Nat)(l:List Int)(e:Ending)(w' : World):Prop :=
 ∃ D E,e=.returned (.slice (some ⟨D,0,none⟩) l.length E)/\l.length<=E/\(D=kb\/w.heap.size<=D)/\Off (fun b=>b=kb) w w' /\ ∃ G,w'.rowIs D 3 E G/\∀ j,j<l.length->G j=.int .i64 (l.getD j 0)
theorem zlB{ks:List Int}{j:Nat}{v:Value}(h:(ks.map (Value.int .i64))[j]?=some v):j<ks.length/\v=.int .i64 (ks.getD j 0):=by
 obtain⟨hl,E⟩:=List.getElem?_eq_some_iff.1 h;have D:j<ks.length:=by simpa using hl
 refine⟨D,?_⟩;rw[<- E,List.getElem_map,zae ks 0 D]
theorem zmO(kb L kc vb i:Nat)(ks:List Int)(E:Int)(w:World)(I:ks.length=L)(hi:i<L)(a6:kc=L)(a7:L<=1000)(G:Nat->Value)(hG:w.rowIs kb 3 kc G)(M:∀ j,j<L->G j=.int .i64 (ks.getD j 0))(F:w.cell? ⟨vb,0,none⟩=some (.int .i64 E)) :
  yL 218 #[.slice (some ⟨kb,0,none⟩) L kc,.int .i64 i,.slice (some ⟨vb,0,none⟩) 1 1] w (zgD w kb (ins ks i E)):=by
 have h:=Any2.slices_Insert_int_grow (P:=Tryz.prog) (ρ:=Tryz.lays21_ren) Tryz.lays21 kb 0 L kc i vb 0 1 1 (ks.map (Value.int .i64)) [.int .i64 E] w hi (by omega) (by omega) (by omega) (by omega) (by simpa using I) rfl
  (fun j v D=>by
   obtain⟨h1,rfl⟩:=zlB D;rw[yz,hG.cell (by omega),M j (by omega)])
  (fun j v D=>by
   match j,D with
   | 0,D=>simp at D;subst D;simpa using F)
  (fun v F=>by simp at F;obtain⟨y,_,rfl⟩:=F;rfl) (fun v F=>by simp at F;subst F;rfl)
 refine ye (show yL 218 _ _ _ from h) ?_;rintro e w' ⟨rfl,rfl⟩;have a5:=grownCap_ge w (L+1) kc (Tryz.lays21_ren.t 3);have hl:=zfI ks i E (by omega);generalize grownCap w (L+1) kc (Tryz.lays21_ren.t 3)=cap at *;refine⟨w.heap.size,cap,by rw[hl,I],by omega,Or.inr (yj _),?_,?_⟩
 ·refine Off.mono (X:=fun b=>b=w.heap.size) ?_ (fun k hk e=>by omega);exact(((Off.of_below ((yk _ _).alloc (yj _) _)).drew.trans (zbH (X:=fun b=>b=w.heap.size) rfl _ _ _)).drew).trans (zbH (X:=fun b=>b=w.heap.size) rfl _ _ _)
 ·have hA:(((ks.map (Value.int .i64)).take i).toArray++Builtin.zeroCells (Value.int .i64 0).cells (L+1-i)++Builtin.zeroCells (Value.int .i64 0).cells (cap-(L+1))).size=cap:=by
   simp[size_zeroCells,Value.cells,I];omega
  have J:∀ j,j<i->(((ks.map (Value.int .i64)).take i).toArray++Builtin.zeroCells (Value.int .i64 0).cells (L+1-i)++Builtin.zeroCells (Value.int .i64 0).cells (cap-(L+1)))[j]?=some (.int .i64 (ks.getD j 0)):=fun j D=>by
   have T:j<ks.length:=(by omega);rw[Array.getElem?_append_left (by simp;omega),Array.getElem?_append_left (by simp;omega)];simp[D,T]
  generalize (((ks.map (Value.int .i64)).take i).toArray++Builtin.zeroCells (Value.int .i64 0).cells (L+1-i)++Builtin.zeroCells (Value.int .i64 0).cells (cap-(L+1)))=A at *;have hr:=World.rowIs_alloc w A 3 (fun j=>A[j]?.getD undef) (fun j D=>by simp[D]);rw[hA] at hr;have U:=zbI [.int .i64 E] i _ _ hr.drew;have Z:=zbI ((ks.map (Value.int .i64)).drop i) (i+1) _ _ U.drew;refine⟨_,Z,fun j D=>?_⟩;rw[hl,I] at D;have O:((ks.map (Value.int .i64)).drop i).length=L-i:=by simp[I]
  by_cases h1:i<j
  ·rw[yb (by rw[O];omega),zpn ks i j E (by omega) h1,zae ks 0 (by omega)];have:i+(j-(i+1))=j-1:=(by omega);simp[List.getD,this,show j-1<ks.length by omega]
  ·rw[ya (by omega)];by_cases h2:j=i
   ·subst h2;rw[yb (by simp),ziF ks j E (by omega)];simp
   ·rw[ya (by simp;omega),zlz ks i j E (by omega) (by omega),J j (by omega)];rfl
theorem zok(kb L kc T:Nat)(ks:List Int)(E:Int)(w:World)(F:ks.length=L)(a5:kc=L)(a6:L<=1000)(G:Nat->Value)(hG:w.rowIs kb 3 kc G)(M:∀ j,j<L->G j=.int .i64 (ks.getD j 0))(J:w.cell? ⟨T,0,none⟩=some (.int .i64 E)) :
  yL 218 #[.slice (some ⟨kb,0,none⟩) L kc,.int .i64 L,.slice (some ⟨T,0,none⟩) 1 1] w (zgD w kb (ins ks L E)):=by
 have h:=Any2.slices_Insert_int_end_grow (P:=Tryz.prog) (ρ:=Tryz.lays21_ren) Tryz.lays21 (some ⟨kb,0,none⟩) L kc T 0 1 1 (ks.map (Value.int .i64)) [.int .i64 E] w (by omega) (by omega) (by omega) (by omega) (by simpa using F) rfl (fun h=>by cases h)
  (fun a ha j v D=>by
   cases ha;obtain⟨h1,rfl⟩:=zlB D;rw[Addr.add_lit,yz,hG.cell (by omega),M j (by omega)])
  (fun j v D=>by
   match j,D with
   | 0,D=>simp at D;subst D;simpa using J)
  (fun v J=>by simp at J;subst J;rfl)
 refine ye (show yL 218 _ _ _ from h) ?_;rintro e w' ⟨rfl,rfl⟩;have U:=grownCap_ge w (L+1) kc (Tryz.lays21_ren.t 3);have hl:=zfI ks L E (by omega);generalize grownCap w (L+1) kc (Tryz.lays21_ren.t 3)=cap at *;refine⟨w.heap.size,cap,by rw[hl,F],by omega,Or.inr (yj _),?_,?_⟩
 ·exact Off.of_below ((yk _ _).drew.alloc (yj _) _)
 ·have hA:((ks.map (Value.int .i64)++[Value.int .i64 E]).toArray++Builtin.zeroCells (Value.int .i64 0).cells (cap-(L+1))).size=cap:=by
   simp[size_zeroCells,Value.cells,F];omega
  have I:∀ j,j<L+1->((ks.map (Value.int .i64)++[Value.int .i64 E]).toArray++Builtin.zeroCells (Value.int .i64 0).cells (cap-(L+1)))[j]?=some (.int .i64 ((ins ks L E).getD j 0)):=fun j D=>by
   rw[Array.getElem?_append_left (by simp;omega)];by_cases e:j=L
   ·rw[e,ziF ks L E (by omega),<- F];simp
   ·have O:j<ks.length:=(by omega);rw[zlz ks L j E (by omega) (by omega)];simp[List.getElem?_append,O]
  generalize ((ks.map (Value.int .i64)++[Value.int .i64 E]).toArray++Builtin.zeroCells (Value.int .i64 0).cells (cap-(L+1)))=A at *;have Z:=World.rowIs_alloc w.drew A 3 (fun j=>A[j]?.getD undef) (fun j D=>by simp[D]);rw[hA] at Z;refine⟨_,Z,fun j D=>?_⟩;rw[hl,F] at D;rw[I j D];rfl
theorem zmP(kb L kc M:Nat)(ks:List Int)(E:Int)(w:World)(O:ks.length=L)(T:L+1<=kc)(U:kc<=1000000000)(G:Nat->Value)(I:w.rowIs kb 3 kc G)(J:∀ j,j<L->G j=.int .i64 (ks.getD j 0))(F:w.cell? ⟨M,0,none⟩=some (.int .i64 E)) :
  yL 218 #[.slice (some ⟨kb,0,none⟩) L kc,.int .i64 L,.slice (some ⟨M,0,none⟩) 1 1] w (zgD w kb (ins ks L E)):=by
 have h:=Any2.slices_Insert_int_end_room (P:=Tryz.prog) (ρ:=Tryz.lays21_ren) Tryz.lays21 kb 0 L kc M 0 1 1 [.int .i64 E] w (by omega) (by omega) (by omega) rfl
  (fun j D=>by rw[I.cell (by omega)];rfl) (fun j _=>I.frozen _)
  (fun j v D=>by
   match j,D with
   | 0,D=>simp at D;subst D;simpa using F)
  (fun v F=>by simp at F;subst F;rfl)
 refine ye (show yL 218 _ _ _ from h) ?_;rintro e w' ⟨rfl,rfl⟩;have hl:=zfI ks L E (by omega);refine⟨kb,kc,by rw[hl,O],by omega,Or.inl rfl,zbH (X:=fun b=>b=kb) rfl _ _ _,_,zbI _ _ _ _ I,fun j D=>?_⟩;rw[hl,O] at D;by_cases e:j=L
 ·rw[yb (by simp;omega),e,ziF ks L E (by omega)];simp
 ·rw[ya (by simp;omega),zlz ks L j E (by omega) (by omega),J j (by omega)]
theorem zlA(kb L kc I i:Nat)(ks:List Int)(F:Int)(w:World)(T:ks.length=L)(hi:i<L)(a7:L+1<=kc)(a8:kc<=1000000000)(G:Nat->Value)(J:w.rowIs kb 3 kc G)(M:∀ j,j<L->G j=.int .i64 (ks.getD j 0))(a5:I≠kb)(E:w.heap[I]?=some (.cells #[.int .i64 F] 3 (0,0))) :
  yL 218 #[.slice (some ⟨kb,0,none⟩) L kc,.int .i64 i,.slice (some ⟨I,0,none⟩) 1 1] w (zgD w kb (ins ks i F)):=by
 have a6:w.cell? ⟨I,0,none⟩=some (.int .i64 F):=by simp[World.cell?,E]
 have O:∀ o,w.frozen? ⟨I,o,none⟩=false:=fun o=>by simp[World.frozen?,E]
 have Z:w.shape? kb=some (3,kc):=by
  obtain⟨c,hc,hs,_⟩:=J;simp[World.shape?,hc,hs]
 have h:=Any2.slices_Insert_int_shift (P:=Tryz.prog) (ρ:=Tryz.lays21_ren) Tryz.lays21 kb 0 L kc i I 0 1 1 (ks.map (Value.int .i64)) [.int .i64 F] w hi (by omega) (by omega) (by omega) a5 (by simpa using T) rfl
  (fun j v D=>by
   obtain⟨h1,rfl⟩:=zlB D;rw[yz,J.cell (by omega),M j (by omega)])
  (fun j D=>by rw[J.cell (by omega)];rfl) (fun j _=>J.frozen _)
  (fun j v D=>by
   match j,D with
   | 0,D=>simp at D;subst D;simpa using a6)
  (fun v E=>by simp at E;obtain⟨y,_,rfl⟩:=E;rfl) (fun v E=>by simp at E;subst E;rfl)
  3 3 1 kc (by simp[World.shape?,E]) Z (by omega) (O _) (O _)
 refine ye (show yL 218 _ _ _ from h) ?_;rintro e w' ⟨rfl,rfl⟩;have hl:=zfI ks i F (by omega);refine⟨kb,kc,by rw[hl,T],by omega,Or.inl rfl,(Off.refl _ _).drew.trans ((zbH (X:=fun b=>b=kb) rfl _ _ _).trans (zbH (X:=fun b=>b=kb) rfl _ _ _)),_,zbI _ _ _ _ (zbI _ _ _ _ J.drew),fun j D=>?_⟩;rw[hl,T] at D;have U:((ks.map (Value.int .i64)).drop i).length=L-i:=by simp[T]
 by_cases h2:j=i
 ·subst h2;rw[yb (by simp),ziF ks j F (by omega)];simp
 ·rw[ya (by simp;omega)];by_cases h1:i<j
  ·rw[yb (by rw[U];omega),zpn ks i j F (by omega) h1,zae ks 0 (by omega)];simp[List.getD];rw[show i+(j-(i+1))=j-1 by omega];simp[show j-1<ks.length by omega]
  ·rw[ya (by omega),zlz ks i j F (by omega) (by omega),M j (by omega)]
theorem zoj(kb L kc E i:Nat)(ks:List Int)(F:Int)(w:World)(M:ks.length=L)(hi:i<=L)(Z:L<=kc)(a5:kc<=1000)(G:Nat->Value)(J:w.rowIs kb 3 kc G)(D:∀ j,j<L->G j=.int .i64 (ks.getD j 0))(T:E≠kb)(U:w.heap[E]?=some (.cells #[.int .i64 F] 3 (0,0))) :
  yL 218 #[.slice (some ⟨kb,0,none⟩) L kc,.int .i64 i,.slice (some ⟨E,0,none⟩) 1 1] w (zgD w kb (ins ks i F)):=by
 have I:w.cell? ⟨E,0,none⟩=some (.int .i64 F):=by simp[World.cell?,U]
 by_cases h1:i=L
 ·subst h1;by_cases O:kc=i
  ·exact zok kb i kc E ks F w M O (by omega) G J D I
  ·exact zmP kb i kc E ks F w M (by omega) (by omega) G J D I
 ·by_cases O:kc=L
  ·exact zmO kb L kc E i ks F w M (by omega) O (by omega) G J D I
  ·exact zlA kb L kc E i ks F w M (by omega) (by omega) (by omega) G J D T U
theorem zqW{w:World}{g:Nat}{S:List Nd}{F:Nat->Value}(D:w.rowIs g 57 (S.length*8) F)
  (h:∀ i,i<S.length->F (i*8)=.bool (nd S i).u/\F (i*8+1)=.int .i64 (nd S i).n/\F (i*8+2)=.int .i64 (nd S i).t/\F (i*8+3)=.int .i64 (nd S i).m/\F (i*8+4)=.int .i64 (nd S i).p/\(∃ ka kc,F (i*8+5)=.slice ka (nd S i).ks.length kc/\zal w ka (nd S i).ks)/\F (i*8+6)=.int .i64 (nd S i).h/\F (i*8+7)=.bool (nd S i).c) :
  zah w (some ⟨g,0,none⟩) S:=fun i hi=>by
 obtain⟨E,I,J,M,O,⟨ka,kc,T,hk⟩,U,Z⟩:=h i hi;refine⟨g,0,rfl,?_⟩;rw[yz];refine⟨?_,?_,?_,?_,?_,⟨ka,kc,?_,hk⟩,?_,?_⟩
 ·rw[D.cell (by omega),E]
 ·rw[D.cell (by omega),I]
 ·rw[D.cell (by omega),J]
 ·rw[D.cell (by omega),M]
 ·rw[D.cell (by omega),O]
 ·rw[D.cell (by omega),T]
 ·rw[D.cell (by omega),U]
 ·rw[D.cell (by omega),Z]
theorem zbP{w:World}{kb kc:Nat}{ks:List Int}{G:Nat->Value}(D:w.rowIs kb 3 kc G)(hl:ks.length<=kc)(h:∀ j,j<ks.length->G j=.int .i64 (ks.getD j 0)):zal w (some ⟨kb,0,none⟩) ks:=fun j E =>
 ⟨kb,0,rfl,by rw[yz,D.cell (by omega),h j E]⟩
def zgh(S:List Nd)(pa D i:Nat)(j:Nat):Nd :=
 if j=D then ⟨(nd S D).u,(nd S D).n,(nd S D).t,(nd S D).m,pa,(nd S D).ks,(nd S D).h,(nd S D).c⟩
 else if j=pa then ⟨(nd S pa).u,(nd S pa).n,(nd S pa).t,(nd S pa).m,(nd S pa).p,ins (nd S pa).ks i D,(nd S pa).h,(nd S pa).c⟩
 else nd S j
def zbo(S:List Nd)(pa D i:Nat):List Nd:=(List.range S.length).map (zgh S pa D i)
theorem zbt(S:List Nd)(pa D i:Nat):(zbo S pa D i).length=S.length:=by simp[zbo]
theorem zfm(S:List Nd)(pa D i j:Nat)(E:j<S.length):nd (zbo S pa D i) j=zgh S pa D i j:=by
 rw[zbq (by rw[zbt];exact E)];simp[zbo]
def atS(ks:List Int):List (Int × Int)->Int
 | []=>ks.length
 | h :: _=>idx ks h.1
theorem znU{w w2:World}{B g:Nat}{S:List Nd}{kb kc:Nat->Nat}(hO:Own w B g S kb kc S.length){W:World}(hb:Below w.heap.size w W){pa E i D I:Nat}(hpa:pa<S.length)(hch:E<S.length)(b2:pa≠E)
  (hi:i<=(nd S pa).ks.length) (a6:D=kb pa\/W.heap.size<=D) (a7:Off (fun b=>b=kb pa) W w2) {G:Nat->Value} (hG:w2.rowIs D 3 I G) (b1:(ins (nd S pa).ks i E).length<=I) (a8:∀ j,j<(ins (nd S pa).ks i E).length->G j=.int .i64 ((ins (nd S pa).ks i E).getD j 0)) :
  ∀ w3:World,(∀ b,g<=b->w3.heap[b]?=((w2.setCell ⟨g,pa*8+5,none⟩ (.slice (some ⟨D,0,none⟩) (ins (nd S pa).ks i E).length I)).setCell ⟨g,E*8+4,none⟩ (.int .i64 pa)).heap[b]?)->zah w3 (some ⟨g,0,none⟩) (zbo S pa E i):=by
 intro w3 O;obtain⟨_,F,hF,hN,hg,hd⟩:=hO;have a9:=hF.lt;have hW:∀ b,b<w.heap.size->b≠kb pa->w2.heap[b]?=w.heap[b]?:=fun b h1 U=>(a7.block b (yx h1 hb.size) U).trans (hb.block b h1);have a5:g≠kb pa:=by have:=hg pa hpa;omega
 have Z:=(((hF.of_block (hW g a9 a5)).set (pa*8+5) (.slice (some ⟨D,0,none⟩) (ins (nd S pa).ks i E).length I)).set (E*8+4) (.int .i64 pa)).of_block (O g (yj _))
 have b0:D≠g:=by
  rcases a6 with h|h
  ·rw[h];exact fun e=>a5 e.symm
  ·have:=hb.size;omega
 have T:g<=D:=by
  rcases a6 with h|h
  ·rw[h];exact Nat.le_of_lt (hg pa hpa)
  ·have:=hb.size;omega
 rw[<- zbt S pa E i] at Z;refine zqW Z (fun j J=>?_);rw[zbt] at J;rw[zfm S pa E i j J];obtain⟨e0,e1,e2,e3,e4,e5,e6,e7,e8,b3,G0,M,e9⟩:=hN j J;unfold zgh;by_cases h1:j=E
 ·subst h1;rw[yb rfl]
  have hr:w3.rowIs (kb j) 3 (kc j) G0 :=
   (((M.of_block (hW (kb j) M.lt (fun e=>b2 (hd pa hpa j J e.symm)))).setOther (by have:=hg j J;simp;omega) _).setOther (by have:=hg j J;simp;omega) _).of_block (O (kb j) (Nat.le_of_lt (hg j J)))
  refine⟨?_,?_,?_,?_,?_,⟨some ⟨kb j,0,none⟩,kc j,?_,zbP hr e8 e9⟩,?_,?_⟩
  all_goals dsimp only
  ·rw[ya (by omega),ya (by omega),e0]
  ·rw[ya (by omega),ya (by omega),e1]
  ·rw[ya (by omega),ya (by omega),e2]
  ·rw[ya (by omega),ya (by omega),e3]
  ·rw[yb rfl]
  ·rw[ya (by omega),ya (by omega),e5]
  ·rw[ya (by omega),ya (by omega),e6]
  ·rw[ya (by omega),ya (by omega),e7]
 ·rw[ya h1];by_cases U:j=pa
  ·subst U;rw[yb rfl];have hr:=((hG.setOther (a:=⟨g,j*8+5,none⟩) (by simp;omega) (.slice (some ⟨D,0,none⟩) (ins (nd S j).ks i E).length I)).setOther (a:=⟨g,E*8+4,none⟩) (by simp;omega) (.int .i64 j)).of_block (O D T);refine⟨?_,?_,?_,?_,?_,⟨some ⟨D,0,none⟩,I,?_,zbP hr b1 a8⟩,?_,?_⟩
   all_goals dsimp only
   ·rw[ya (by omega),ya (by omega),e0]
   ·rw[ya (by omega),ya (by omega),e1]
   ·rw[ya (by omega),ya (by omega),e2]
   ·rw[ya (by omega),ya (by omega),e3]
   ·rw[ya (by omega),ya (by omega),e4]
   ·rw[ya (by omega),yb rfl]
   ·rw[ya (by omega),ya (by omega),e6]
   ·rw[ya (by omega),ya (by omega),e7]
  ·rw[ya U]
   have hr:w3.rowIs (kb j) 3 (kc j) G0 :=
    (((M.of_block (hW (kb j) M.lt (fun e=>U (hd j J pa hpa e)))).setOther (by have:=hg j J;simp;omega) _).setOther (by have:=hg j J;simp;omega) _).of_block (O (kb j) (Nat.le_of_lt (hg j J)))
   refine⟨?_,?_,?_,?_,?_,⟨some ⟨kb j,0,none⟩,kc j,?_,zbP hr e8 e9⟩,?_,?_⟩
   all_goals
    rw[ya (by omega),ya (by omega)];assumption
theorem zcG{X:Nat->Prop}{a:Addr}(w:World)(D:X a.block)(v:Value):Off X w (w.setCell a v) :=
 ⟨rfl,rfl,rfl,by simp,fun k _ E=>ys w a v k (fun e=>E (by rw[e];exact D))⟩
theorem Off.frozen{X:Nat->Prop}{w w' : World}(h:Off X w w'){p:Addr}(D:p.block<w.heap.size)(E:¬ X p.block):w'.frozen? p=w.frozen? p:=by
 unfold World.frozen?;rw[h.block _ D E]
theorem zqS(g c N D:Nat)(w:World)(hch:D<N)(I:w.cell? ⟨g,D*8+4,none⟩=some (.int .i64 (-1))) :
  yL 186 #[.slice (some ⟨g,0,none⟩) N c,.int .i64 D] w fun e w' => e=.returned (.tuple #[])/\Below w.heap.size w w' := by
 have E:(D:Int)<(N:Int):=by omega
 have F:=yd _ _ I
 go_enter Tryz.func186,Tryz.ntmps186
 go_wp2
 exact yv (v:=.tuple #[]) (by simp[results,Tryz.results186,go_sem]) rfl ⟨rfl,(yk _ _).alloc (yj _) _⟩
theorem zsG(B g c:Nat)(S:List Nd)(kb kc:Nat->Nat)(pa D at' : Nat)(ha:Option Addr)(hc:Nat)(hs:List (Int × Int))(w:World)(hO:Own w B g S kb kc S.length)(hpa:pa<S.length)(hch:D<S.length)(d6:pa≠D)(b6:hs.length<=1)(hH:zaw w ha hs)(b1:atS (nd S pa).ks hs=at')(a5:at' <=(nd S pa).ks.length) :
  yL 207 #[.slice (some ⟨g,0,none⟩) S.length c,.int .i64 pa,.int .i64 D,.slice ha hs.length hc] w fun e w' => e=.returned (.tuple #[])/\Off (fun b=>b=g\/b=kb pa) w w' /\ ∀ w3:World,(∀ b,g<=b->w3.heap[b]?=w'.heap[b]?)->zah w3 (some ⟨g,0,none⟩) (zbo S pa D at'):=by
 have AF:Hid (∀ (W I:World) (J O:Nat) (G' : Nat->Value),Below w.heap.size w W->(J=kb pa\/W.heap.size<=J)->Off (fun b=>b=kb pa) W I->I.rowIs J 3 O G' ->(ins (nd S pa).ks at' D).length<=O->(∀ j,j<(ins (nd S pa).ks at' D).length->G' j=.int .i64 ((ins (nd S pa).ks at' D).getD j 0))->∀ w3:World,(∀ b,g<=b->w3.heap[b]?=((I.setCell ⟨g,pa*8+5,none⟩ (.slice (some ⟨J,0,none⟩) (ins (nd S pa).ks at' D).length O)).setCell ⟨g,D*8+4,none⟩ (.int .i64 pa)).heap[b]?)->zah w3 (some ⟨g,0,none⟩) (zbo S pa D at')):=fun W I J O G' h1 h2 h3 h4 h5 h6=>znU hO h1 hpa hch d6 a5 h2 h3 h4 h5 h6;have HH:Hid (zaw w ha hs):=hH;obtain⟨hB,F,hF,a6,hg,hd⟩:=hO;obtain⟨e0,e1,e2,e3,e4,e5,e6,e7,e8,a9,G,hG,e9⟩:=a6 pa hpa;obtain⟨f0,f1,f2,f3,f4,f5,f6,f7,f8,c7,G2,c8,f9⟩:=a6 D hch;have T:=hF.lt;have c9:=hF.frozen;have q5:w.cell? ⟨g,pa*8+5,none⟩=some (.slice (some ⟨kb pa,0,none⟩) (nd S pa).ks.length (kc pa)):=by rw[hF.cell (by omega),e5]
 have q4:w.cell? ⟨g,D*8+4,none⟩=some (.int .i64 (nd S D).p):=by rw[hF.cell (by omega),f4]
 have d4:=hG.lt;have g8:=hg pa hpa;have dx:=fun(v:Int) (W:World) (hW:Below w.heap.size w W)=>zte (some ⟨kb pa,0,none⟩) (kc pa) (nd S pa).ks v W (by omega) ((zbP hG e8 e9).below hW);have DX:Hid _:=dx;have di:=fun(W:World) (hW:Below w.heap.size w W) (vb:Nat) (d7:vb≠kb pa) (hv:W.heap[vb]?=some (.cells #[.int .i64 (D:Int)] 3 (0,0)))=>zoj (kb pa) (nd S pa).ks.length (kc pa) vb at' (nd S pa).ks D W rfl a5 e8 a9 G (hG.of_block (hW.block _ hG.lt)) e9 d7 hv;have DI:Hid _:=di;have g4:(pa:Int)<(S.length:Int):=by omega
 have d9:(D:Int)<(S.length:Int):=by omega
 have H1:Hid (hs.length<=1):=b6;have b7:Hid _:=b1;have g5:(nd S pa).ks.length<=1000:=by omega
 clear e0 e1 e2 e3 e4 e5 e6 e7 e8 a9 hG e9 f0 f1 f2 f3 f4 f5 f6 f7 f8 c7 c8 f9 hF a6 hd hg dx di hH b1;generalize hL:(nd S pa).ks.length=L at *;have HL:Hid _:=hL;clear hL;generalize hn:S.length=n at *;generalize hm:hs.length=m at *;have HM:Hid _:=hm;clear hn hm;have h7:m<=1:=b6
 go_enter Tryz.func207,Tryz.ntmps207
 go_wp2
 go_loopg [9,21] m (fun g1 s9 s21 wr=>∃ (k:Nat) (x:Int),k<=m/\m-k<=g1/\s21=.int .i64 k/\s9=.int .i64 x/\Below w.heap.size w wr/\Hid (x=atS (nd S pa).ks (hs.take k)))
 case atStart=>exact⟨0,L,by omega,by omega,rfl,rfl,yk _ _,(show _=_ by rw[<- HL.out];rfl)⟩
 case round =>
  obtain⟨k,x,hk,g7,rfl,rfl,E,A⟩:=hrel;by_cases d5:k<m
  ·have b2:k=0:=(by omega);obtain⟨b,o,rfl,c0,c1⟩:=(HH.out.below E) k (by rw[HM.out];exact d5);have g0:(k:Int)<(m:Int):=(by omega);have g6:=yd _ _ c0
   have TK:Hid (atS (nd S pa).ks (hs.take (k+1))=idx (nd S pa).ks (hs.getD k (0,0)).1):=by
    subst b2;show _=_
    obtain⟨h0,hr,rfl⟩:∃ h0 hr,hs=h0 :: hr:=by
     cases hs with
     | nil=>have:=HM.out;simp at this;omega
     | cons a r=>exact⟨a,r,rfl⟩
    rfl
   generalize (hs.getD k (0,0)).1=pv at *;generalize (hs.getD k (0,0)).2=uv at *;have d1:=fun o1=>DX.out pv (wr.alloc o1) (E.alloc E.size o1);generalize idx (nd S pa).ks pv=ix at *;clear b2
   go_wp2_with (go_at_call 217;refine(d1 _).mono ?_;rintro e I ⟨rfl,rfl⟩)
   go_roundg (m-(k+1))
   case measure=>omega
   case rel=>exact⟨k+1,ix,by omega,by omega,by go_num,rfl,E.alloc E.size _,TK.out.symm⟩
  ·have b5:k=m:=by omega
   have d8:x=(at' : Int):=by
    rw[A.out,b5,<- HM.out,List.take_length];exact b7.out
   subst b5;subst d8;have r5:=(E.cell (by exact T)).trans q5;have r4:=(E.cell (by exact T)).trans q4;have rf:=fun o=>(E.frozen (by exact T)).trans (c9 o);have g9:kb pa<wr.heap.size:=yx d4 E.size;have HV:Hid ((wr.alloc (.cells #[.int .i64 (D:Int)] 3)).heap[wr.heap.size]?=some (.cells #[.int .i64 (D:Int)] 3 (0,0))):=yK wr _;clear A
   have b8:Hid (∀ I,Off (fun b=>b=kb pa) (wr.alloc (.cells #[.int .i64 (D:Int)] 3)) I->I.cell? ⟨g,pa*8+5,none⟩=some (.slice (some ⟨kb pa,0,none⟩) L (kc pa))/\(∀ v,(I.setCell ⟨g,pa*8+5,none⟩ v).cell? ⟨g,D*8+4,none⟩=some (.int .i64 (nd S D).p))/\(∀ o,I.frozen? ⟨g,o,none⟩=false)):=fun I h2=>by
    have a8:g<wr.heap.size:=yx T E.size;have a7:=(yk _ wr).alloc (yj _) (.cells #[.int .i64 (D:Int)] 3);refine⟨?_,fun v=>?_,fun o=>?_⟩
    ·exact((h2.cell (by simp;omega) (by simp;omega)).trans (a7.cell (by exact a8))).trans r5
    ·rw[World.cell?_setCell_other _ _ _ _ (by simp)];exact((h2.cell (by simp;omega) (by simp;omega)).trans (a7.cell (by exact a8))).trans r4
    ·exact((h2.frozen (by simp;omega) (by simp;omega)).trans (a7.frozen (by exact a8))).trans (rf o)
   go_wp2_with (go_at_call 218;refine(DI.out _ (E.alloc E.size _) wr.heap.size (by omega) HV.out).mono ?_;rintro e I ⟨J,O,rfl,b4,b3,M,G', b0,Z⟩;obtain⟨s5,s4,sf⟩:=b8.out I M;have b9:Hid _:=b0;have c6:Hid _:=Z;have U:Hid _:=M;clear b0 Z M)
   refine bodyPost_end (v:=.tuple #[]) (by simp[results,Tryz.results207,go_sem]) rfl ⟨rfl,?_,?_⟩
   ·have h1:Off (fun b=>b=g\/b=kb pa) w I:=(Off.of_below (E.alloc E.size _)).trans (U.out.mono (fun k _ h=>Or.inr h));exact(h1.trans (zcG _ (Or.inl rfl) _)).trans (zcG _ (Or.inl rfl) _)
   ·exact AF.out _ _ _ _ _ (E.alloc E.size _) b3 U.out b9.out b4 c6.out
def zoV(X:Nat->Prop)(K:Nat)(D:Array Value)(p:Int->Bool)(w:World):Prop :=
 ∀ (x:Int) (w1:World),Off X w w1->yL K (#[.int .i64 x] ++ D) w1 fun e E=>e=.returned (.bool (p x))/\Below w1.heap.size w1 E
def flt(p:Int->Bool)(ks:List Int):List Int:=ks.filter fun x=>!p x
theorem zgP(p:Int->Bool)(ks:List Int)(j:Nat)(h:j<ks.length):flt p (ks.take (j+1))=flt p (ks.take j)++(if p (ks.getD j 0) then [] else [ks.getD j 0]):=by
 unfold flt;rw[List.take_succ_eq_append_getElem h,List.filter_append,zae ks 0 h]
 cases hp:p ks[j] <;> simp[hp]
theorem zlx(p:Int->Bool)(ks:List Int)(h:∀ i,i<ks.length->p (ks.getD i 0)=false):flt p ks=ks:=by
 unfold flt;rw[List.filter_eq_self];intro x D;obtain⟨i,hi,rfl⟩:=List.getElem_of_mem D;have:=h i hi;rw[zae ks 0 hi] at this;simp[this]
theorem zsK(p:Int->Bool)(ks:List Int):(flt p ks).length<=ks.length:=List.length_filter_le _ _
def znB(w:World)(kb cap:Nat)(l:List Int)(e:Ending)(w' : World):Prop :=
 e=.returned (.slice (some ⟨kb,0,none⟩) l.length cap)/\Off (fun b=>b=kb) w w' /\ ∃ G,w'.rowIs kb 3 cap G/\∀ j,j<l.length->G j=.int .i64 (l.getD j 0)
theorem zkb(K:Nat)(I:Array Value)(p:Int->Bool)(kb L cap:Nat)(ks:List Int)(G:Nat->Value)(w:World)(hL:ks.length=L)(hc:L<=cap)(d5:cap<=1000000000)(hG:w.rowIs kb 3 cap G)(a7:∀ j,j<L->G j=.int .i64 (ks.getD j 0))
  (eg:∀ args w,(callFunc K args).run Tryz.prog w=.ok (.enter K args) w) (hT:zoV (fun b=>b=kb) K I p w) :
  yL 197 #[.slice (some ⟨kb,0,none⟩) L cap,.func (.func K) #[] I] w (znB w kb cap (flt p ks)):=by
 have di:=zgV K I p (some ⟨kb,0,none⟩) cap ks w (by omega) (zbP hG (by omega) (by rw[hL];exact a7)) eg (fun x w1 hb=>hT x w1 (Off.of_below hb));rw[hL] at di;have HG:Hid (w.rowIs kb 3 cap G):=hG;have a6:Hid _:=a7;have HT:Hid (zoV (fun b=>b=kb) K I p w):=hT;have T:Hid _:=hL;have b2:=hG.lt;clear hG a7 hT hL
 go_enter Tryz.func197,Tryz.ntmps197
 go_wp2_with fail
 refine di.mono ?_;rintro e w1 ⟨r,rfl,M,hr⟩;clear di;rcases hr with ⟨rfl,a5⟩ |⟨k,hk,rfl,hp,hf⟩
 ·have a9:=zlx p ks (by rw[T.out];exact a5);have E:Hid _:=a9;clear a5 a9
  go_wp2
  go_ret;refine⟨by rw[E.out,T.out];rfl,Off.of_below M,G,HG.out.of_block (M.block kb b2),fun j hj=>?_⟩;rw[E.out] at hj |-;exact a6.out j (by rw[<- T.out];exact hj)
 ·have d4:((k:Int) == -1)=false:=beq_eq_false_iff_ne.2 (by omega)
  have F0:Hid (flt p (ks.take (k+1))=ks.take k):=by
   show _=_;rw[zgP p ks k (by rw[T.out];exact hk),hp,yb rfl,List.append_nil];refine zlx p _ (fun i hi=>?_);rw[List.length_take] at hi;have b3:=T.out;have h1:=hf i (by omega);rw[zae ks 0 (by omega)] at h1;rw[zae (ks.take k) 0 (by rw[List.length_take];omega),List.getElem_take];exact h1
  have a8:Hid (w1.rowIs kb 3 cap G):=HG.out.of_block (M.block kb b2)
  have FI:Hid (∀ t,t<k->G t=.int .i64 ((flt p (ks.take (k+1))).getD t 0)):=fun t O=>by
   have b3:=T.out;rw[F0.out,a6.out t (by omega),zae ks 0 (by omega),zae (ks.take k) 0 (by rw[List.length_take];omega),List.getElem_take]
  have FL:Hid ((flt p (ks.take (k+1))).length=k):=by
   have b3:=T.out;show _=_;rw[F0.out,List.length_take];omega
  have O1:Hid (Off (fun b=>b=kb) w w1):=Off.of_below M;clear hp hf M
  go_wp2
  go_loopg [5,6] L (fun g1 s5 s6 wr=>∃ (i j:Nat) (G2:Nat->Value),i<j/\j<=L/\L-j<=g1/\s5=.int .i64 i/\s6=.int .i64 j/\Hid (Off (fun b=>b=kb) w wr)/\Hid (wr.rowIs kb 3 cap G2)/\Hid ((flt p (ks.take j)).length=i)/\Hid (∀ t,t<i->G2 t=.int .i64 ((flt p (ks.take j)).getD t 0))/\Hid (∀ t,j<=t->t<L->G2 t=.int .i64 (ks.getD t 0)))
  case atStart=>exact⟨k,k+1,G,by omega,by omega,by omega,rfl,by go_num,O1,a8,FL,FI,(show Hid _ from fun t _ O=>a6.out t O)⟩
  case round =>
   clear a8 FI FL O1;obtain⟨i,j,G2,c8,c9,b9,rfl,rfl,O2,R2,L2,I2,J2⟩:=hrel;have U:kb<wr.heap.size:=R2.out.lt;have b0:=R2.out.frozen;by_cases b4:j<L
   ·have b6:(j:Int)<(L:Int):=(by omega);have cj:=R2.out.cell (i:=j) (by omega);rw[J2.out j (yj _) b4] at cj;have ci:=R2.out.cell (i:=i) (by omega);have D:=HT.out (ks.getD j 0) wr O2.out;have Z:=zgP p ks j (by rw[T.out];exact b4);generalize hy:ks.getD j 0=y at *;have HY:Hid _:=hy;clear hy
    cases hq:p y with
    | true =>
     rw[hq] at D Z;rw[yb rfl,List.append_nil] at Z;have J:Hid _:=Z;clear Z
     go_wp2_with (go_at_fn K;refine D.mono ?_;rintro e w2 ⟨rfl,F⟩)
     go_roundg (L-(j+1))
     case measure=>omega
     case rel=>exact⟨i,j+1,G2,by omega,by omega,by omega,rfl,by go_num,O2.out.trans (Off.of_below F),R2.out.of_block (F.block kb U),(show _=_ by rw[J.out];exact L2.out),(show Hid _ from fun t O=>by rw[J.out];exact I2.out t O),(show Hid _ from fun t h1 h2=>J2.out t (by omega) h2)⟩
    | false =>
     rw[hq] at D Z;rw[ya (by simp)] at Z;have J:Hid _:=Z;clear Z
     go_wp2_with (go_at_fn K;refine D.mono ?_;rintro e w2 ⟨rfl,F⟩;have b7:=(F.cell (by exact U)).trans ci;have b5:=fun o=>(F.frozen (by exact U)).trans (b0 o))
     go_roundg (L-(j+1))
     case measure=>omega
     case rel =>
      refine⟨i+1,j+1,_,by omega,by omega,by omega,by go_num,by go_num,(O2.out.trans (Off.of_below F)).trans (zcG (X:=fun b=>b=kb) _ rfl _),(R2.out.of_block (F.block kb U)).set i (.int .i64 y),(show _=_ by rw[J.out,List.length_append,L2.out];rfl),(show Hid _ from fun t O=>?_),(show Hid _ from fun t h1 h2=>?_)⟩
      ·rw[J.out];by_cases e:t=i
       ·subst e;rw[yb rfl];simp[List.getD,L2.out]
       ·rw[ya e,I2.out t (by omega)];simp[List.getD,List.getElem?_append,L2.out,show t<i by omega]
      ·rw[ya (by omega)];exact J2.out t (by omega) h2
   ·have b1:j=L:=(by omega);subst b1;have c7:(i:Int)<=(cap:Int):=(by omega);have c6:(i:Int)<=(j:Int):=by omega
    have EF:Hid (flt p (ks.take j)=flt p ks):=by
     show _=_;rw[<- T.out,List.take_length]
    have b8:∀ ty,(Builtin.clear_ #[48] ty #[.slice (some ⟨kb,i,none⟩) (j-i) (cap-i)]).run Tryz.prog wr=.ok (.tuple #[]) (wr.setCells kb i (List.replicate (j-i) (.int .i64 0))):=fun ty=>Lib.run_clear_slice wr 48 3 ty (.int .i64 0) Tryz.underlying48 Tryz.zeroValue3 rfl rfl kb i (j-i) (cap-i) (by omega) (fun t O=>by rw[R2.out.cell (by omega)];rfl) (fun t O=>b0 _)
    go_wp2
    go_ret;refine⟨?_,O2.out.trans (zbH (X:=fun b=>b=kb) rfl _ _ _),_,zbI _ _ _ _ R2.out,fun t O=>?_⟩
    ·rw[<- EF.out,L2.out];rfl
    ·rw[<- EF.out,L2.out] at O;rw[ya (by omega),I2.out t O,EF.out]
end Go.Proofs.YtcbcpomacdngmaaGreat
