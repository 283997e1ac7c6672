/-
  x
-/
import Derived.Test.YtgjfmepbphfjoaaGreatQ6
import Derived.Laws.AppendOwnNone
import Derived.Deep.RegionHeld3
namespace Go.Proofs.YtgjfmepbphfjoaaGreat
set_option maxRecDepth 100000
set_option maxHeartbeats 4000000
set_option linter.unusedVariables false
open Go.RowKit
theorem zfy{P:Program}{w:World}{F:Array Oper}{rest:List Oper}{o:Oper}{a:Act}{Q:Exit->Act->World->Prop}(I:o.guard=none)(s x:Operand)(t:TypeId)
  (U:o.op=.call { callee:=.builtin .append,args:=#[s,x],argTypes:=#[t,t] })
  (base:Nat) (e:TypeId) (i:TypeInfo) (size:Nat) (O:P.underlying t=some (.slice e)) (M:P.info? e=some i)
  (v:Value) (n c:Nat) (V:List Value) (hs:a.eval s=v) (A:w.ownsRow base e size v n V) (hx:a.eval x=.slice none 0 c)
  (h:wpList P F Q rest (a.put o.dst v) w):wpList P F Q (o :: rest) a w:=by
 refine wpList_plain I fun K hK=>?_
 have D:(Builtin.append_ #[t,t] o.type #[v,.slice none 0 c]).run P w=.ok v w:=by
  rcases A.2 with ⟨rfl,rfl⟩ |⟨g,cap,T,rfl,_,_,J,_⟩
  ·simp[Builtin.append_,run_underlying O,sizeOf,typeInfo,M,Builtin.lenOf,Builtin.firstCells]
  ·simp[Builtin.append_,run_underlying O,sizeOf,typeInfo,M,Builtin.lenOf,Builtin.firstCells,J,storeCells]
 unfold Oper.wp;simp[execOp,U,resolve,invoke,builtin,hs,hx,D,Result.andThen];exact hK _ _ h
theorem grownBy_refl(w:World)(r:Option Nat):w.grownBy w r:=⟨rfl,rfl,rfl,yi _,fun _ _ _=>rfl⟩
theorem zcu{w:World}{O:Array Oper}{rest:List Oper}{o:Oper}{a:Act}{Q:Exit->Act->World->Prop}(I:o.guard=none)(s x:Operand)
  (ho:o.op=.call { callee:=.builtin .append,args:=#[s,x],argTypes:=#[29,29] })
  (base:Nat) (v:Value) (n:Nat) (U:List Value) (hs:a.eval s=v) (A:w.ownsRow base 3 1 v n U)
  (ka:Option Addr) (m kc:Nat) (ks:List Int) (hx:a.eval x=.slice ka m kc) (hm:ks.length=m) (hI:zaj w ka ks)
  (V:n+m<=maxLen) (D:(n+m)*8<=140737488355328) (hbase:base<=w.heap.size)
  (h:∀ T w', w'.ownsRow base 3 1 T (n+m) (U++ks.map (Value.int .i64))->w.grownBy w' v.ownBlock->(v≠.slice none 0 0->T≠.slice none 0 0)->wpList Tryz.prog O Q rest (a.put o.dst T) w'):wpList Tryz.prog O Q (o :: rest) a w:=by
 obtain⟨i0,J,Z,a4,a5⟩:=info_parts info3;subst hm
 cases ka with
 | none =>
  have h0:ks=[]:=by
   cases ks with
   | nil=>rfl
   | cons y l=>obtain⟨b,o,e,_⟩:=hI 0 (by simp);cases e
  subst h0;exact zfy I s x 29 ho base 3 i0 1 Tryz.underlying29 J v n kc U hs A hx (h v w (by simpa using A) (grownBy_refl _ _) id)
 | some ad =>
  exact wpList_append_own w I s x 29 ho base 3 i0 (.int .i64 0) 1 8 Tryz.underlying29 J Z a4 a5 rfl (by decide) v n U hs A ad ks.length kc (ks.map (Value.int .i64)) hx (by simp) (fun j u F=>by
   rw[List.getElem?_map] at F
   cases hjk:ks[j]? with
   | none=>rw[hjk] at F;cases F
   | some y =>
    rw[hjk] at F;have M:j<ks.length:=(List.getElem?_eq_some_iff.1 hjk).1;obtain⟨b,o,e,hc⟩:=hI j M;cases e;have:ks.getD j 0=y:=by rw[zaf ks 0 M];exact(List.getElem?_eq_some_iff.1 hjk).2
    rw[this] at hc;simp at F;subst F;rw[Addr.add_lit];exact hc) (fun u hu=>by obtain⟨y,_,rfl⟩:=List.mem_map.1 hu;rfl) V D hbase (fun T w' h2 h3 h4=>h T w' h2 h3 (fun hn e=>hn (h4.1 e).1))
def zdi(x:Nd)(v:Value):List Value:=[.bool x.u,.int .i64 x.n,.int .i64 x.t,.int .i64 x.m,.int .i64 x.p,v,.int .i64 x.h,.bool x.c]
def zcR(S:List Nd)(K:Nat->Value)(q:Nat):List Value:=(List.range q).flatMap fun i=>zdi (nd S i) (K i)
theorem zcB{α β:Type}{l:List α}{f g:α->List β}(h:∀ x ∈ l,f x=g x):l.flatMap f=l.flatMap g:=by
 induction l with
 | nil=>rfl
 | cons y l w=>simp only[List.flatMap_cons];rw[h y (by simp),w (fun x hx=>h x (by simp[hx]))]
theorem zkl(S:List Nd)(K:Nat->Value)(q:Nat)(v:Value):zcR S K q++zdi (nd S q) v=zcR S (fun i=>if i=q then v else K i) (q+1):=by
 unfold zcR;rw[List.range_succ,List.flatMap_append]
 congr 1
 ·refine zcB (fun x hx=>?_);have:x≠q:=by have:=List.mem_range.1 hx;omega
  simp only[ya this]
 ·simp
def zca(B:Nat)(S:List Nd)(q:Nat)(K:Nat->Value)(v:Value)(w:World):Prop :=
 w.ownsRow B 47 8 v q (zcR S K q)/\∀ i,i<q->w.ownsRow B 3 1 (K i) (nd S i).ks.length ((nd S i).ks.map (Value.int .i64))
def zgO(w:World)(b:Nat)(v:Value):Prop:=w.heap[b]?=some (.cells #[v] 24 (0,0))
theorem zgO.cell{w:World}{b:Nat}{v:Value}(h:zgO w b v):w.cell? ⟨b,0,none⟩=some v:=by
 unfold zgO at h;simp[World.cell?,h]
theorem zgO.frozen{w:World}{b:Nat}{v:Value}(h:zgO w b v):w.frozen? ⟨b,0,none⟩=false:=by
 unfold zgO at h;simp[World.frozen?,h]
theorem zgO.set{w:World}{b:Nat}{v A:Value}(h:zgO w b v):zgO (w.setCell ⟨b,0,none⟩ A) b A:=by
 unfold zgO at h |-;show (w.heap.modify b _)[b]?=_;rw[Array.getElem?_modify,yd rfl,h];rfl
theorem zgO.new(w:World)(v:Value)(b:Nat)(A:b=w.heap.size):zgO (w.alloc (.cells #[v] 24)) b v:=by
 subst A;unfold zgO;exact heap_alloc_new w _
theorem zoF(W:World)(o1:Obj):((W.alloc o1).alloc (.cells #[] 3)).ownsRow (W.heap.size+1) 3 1 (.slice (some ⟨W.heap.size+1,0,none⟩) 0 0) 0 []:=by
 have h:=World.ownsRow_lit (base:=W.heap.size+1) (e:=3) (size:=1) (W.alloc o1) #[] 0 (by simp) (by unfold maxLen;omega) (by simp);simpa using h
theorem zgO.alloc{w:World}{b:Nat}{v:Value}(h:zgO w b v)(o:Obj):zgO (w.alloc o) b v:=by
 have A:=ye _ _ h.cell;exact(Below.heap_alloc _ _ _ A).trans h
def zse(w:World)(S:List Nd)(q:Nat)(K:Nat->Value)(v:Value)(wr:World):Prop :=
 Below w.heap.size w wr/\w.heap.size+3<=wr.heap.size/\zgO wr (w.heap.size+1) (.slice none 0 0)/\zgO wr (w.heap.size+2) v/\zca (w.heap.size+3) S q K v wr
theorem zse.step{w wr w2 w3:World}{S:List Nd}{q:Nat}{K:Nat->Value}{v v1 v2:Value}{o1 o3:Obj}(I:zse w S q K v wr)
  (O:((wr.alloc o1).alloc (.cells #[] 3)).grownBy w2 (some (wr.heap.size+1))) (F:w2.ownsRow (wr.heap.size+1) 3 1 v1 (nd S q).ks.length ((nd S q).ks.map (Value.int .i64)))
  (T:((w2.setCell ⟨wr.heap.size,5,none⟩ v1).alloc o3).grownBy w3 v.ownBlock) (J:w3.ownsRow (w.heap.size+3) 47 8 v2 (q+1) (zcR S K q++zdi (nd S q) v1)) :
  zse w S (q+1) (fun i=>if i=q then v1 else K i) v2 (w3.setCell ⟨w.heap.size+2,0,none⟩ v2):=by
 obtain⟨V,hs,hr,ho,hm,A⟩:=I;have s2:=O.size;have s3:=T.size;simp[World.setCell] at s2 s3;have U:∀ k,v.ownBlock=some k->w.heap.size+3<=k/\k<wr.heap.size:=fun k A=>hm.lt k A
 have e2:∀ k,k<wr.heap.size->w2.heap[k]?=wr.heap[k]?:=fun k A =>
  (O.block k (by simp;omega) (by intro e;have:=Option.some.inj e;omega)).trans ((Below.heap_alloc _ _ _ (by simp;omega)).trans (Below.heap_alloc _ _ _ A))
 have e3:∀ k,k<w2.heap.size->k≠wr.heap.size->v.ownBlock≠some k->w3.heap[k]?=w2.heap[k]?:=fun k A Z a4 =>
  (T.block k (by simp[World.setCell];omega) (fun e=>a4 e.symm)).trans ((Below.heap_alloc _ _ _ (by simp[World.setCell];omega)).trans (yo _ _ _ _ Z))
 have e4:∀ k,k≠w.heap.size+2->(w3.setCell ⟨w.heap.size+2,0,none⟩ v2).heap[k]?=w3.heap[k]?:=fun k A=>yo _ _ _ _ A;have D:∀ k,k<w.heap.size+3->w3.heap[k]?=wr.heap[k]?:=fun k A=>(e3 k (by omega) (by omega) (fun e=>by have:=(U k e).1;omega)).trans (e2 k (by omega));refine⟨⟨T.os.trans (O.os.trans V.os),T.tape.trans (O.tape.trans V.tape),T.output.trans (O.output.trans V.output),by simp[World.setCell];omega,fun k A=>?_⟩,by simp[World.setCell];omega,?_,?_,?_,fun i hi=>?_⟩
 ·exact(e4 k (by omega)).trans ((D k (by omega)).trans (V.block k A))
 ·exact(e4 _ (by omega)).trans ((D _ (by omega)).trans hr)
 ·exact zgO.set (v:=v) ((D _ (by omega)).trans ho)
 ·rw[<- zkl];exact zao J (fun k A=>e4 k (by have:=(J.lt k A).1;omega))
 ·by_cases e:i=q
  ·subst e;simp only[if_true];refine zao (zau F (by omega)) (fun k A=>?_);have hl:=F.lt k A;exact(e4 k (by omega)).trans (e3 k (by omega) (by omega) (fun e=>by have:=(U k e).2;omega))
  ·simp only[ya e];have M:=A i (by omega);refine zao M (fun k A=>?_);have hl:=M.lt k A;exact(e4 k (by omega)).trans ((e3 k (by omega) (by omega) (zbH M hm (by decide) k A)).trans (e2 k (by omega)))
theorem zsM{W:World}{b:Nat}{x:Nd}{v:Value}(c0:W.cell? ⟨b,0,none⟩=some (.bool x.u))(c1:W.cell? ⟨b,1,none⟩=some (.int .i64 x.n))(c2:W.cell? ⟨b,2,none⟩=some (.int .i64 x.t))(c3:W.cell? ⟨b,3,none⟩=some (.int .i64 x.m))(c4:W.cell? ⟨b,4,none⟩=some (.int .i64 x.p))(c5:W.cell? ⟨b,5,none⟩=some v)(A:W.cell? ⟨b,6,none⟩=some (.int .i64 x.h))(D:W.cell? ⟨b,7,none⟩=some (.bool x.c)):∀ j u,(zdi x v)[j]?=some u->W.cell? ((⟨b,0,none⟩:Addr).add j)=some u:=fun j u w=>by
 unfold zdi at w;rw[Addr.add_lit]
 match j,w with
 | 0,w=>cases w;exact c0
 | 1,w=>cases w;exact c1
 | 2,w=>cases w;exact c2
 | 3,w=>cases w;exact c3
 | 4,w=>cases w;exact c4
 | 5,w=>cases w;exact c5
 | 6,w=>cases w;exact A
 | 7,w=>cases w;exact D
theorem zsS{x:Nd}{a:Option Addr}{n c:Nat}:∀ u ∈ zdi x (.slice a n c),u.oneCell' = true:=fun u w=>by
 unfold zdi at w;simp at w;rcases w with rfl|rfl|rfl|rfl|rfl|rfl|rfl|rfl <;> rfl
theorem zsR{W w2:World}{a0 a1 a2 a3 w A D F:Value}(I:((W.alloc (.cells #[a0,a1,a2,a3,w,A,D,F] 47)).alloc (.cells #[] 3)).grownBy w2 (some (W.heap.size+1))) :
  (w2.cell? ⟨W.heap.size,0,none⟩=some a0/\w2.cell? ⟨W.heap.size,1,none⟩=some a1/\w2.cell? ⟨W.heap.size,2,none⟩=some a2/\w2.cell? ⟨W.heap.size,3,none⟩=some a3/\w2.cell? ⟨W.heap.size,4,none⟩=some w/\w2.cell? ⟨W.heap.size,5,none⟩=some A/\w2.cell? ⟨W.heap.size,6,none⟩=some D/\w2.cell? ⟨W.heap.size,7,none⟩=some F)/\w2.frozen? ⟨W.heap.size,5,none⟩=false/\W.heap.size+2<=w2.heap.size:=by
 have e:w2.heap[W.heap.size]?=some (.cells #[a0,a1,a2,a3,w,A,D,F] 47 (0,0)) :=
  (I.block W.heap.size (by simp;omega) (by intro e;have:=Option.some.inj e;omega)).trans ((Below.heap_alloc _ _ _ (by simp)).trans (heap_alloc_new W _))
 have s2:=I.size;simp at s2;refine⟨⟨?_,?_,?_,?_,?_,?_,?_,?_⟩,?_,by omega⟩
 all_goals simp[World.cell?,World.frozen?,e]
theorem zsL{W w2:World}{o1:Obj}(w:((W.alloc o1).alloc (.cells #[] 3)).grownBy w2 (some (W.heap.size+1))):∀ k,k<W.heap.size->w2.heap[k]?=W.heap[k]?:=fun k A =>
  (w.block k (by simp;omega) (by intro e;have:=Option.some.inj e;omega)).trans ((Below.heap_alloc _ _ _ (by simp;omega)).trans (Below.heap_alloc _ _ _ A))
theorem zrO{W w2:World}{o1 o3:Obj}{B q:Nat}{v v1:Value}{D:List Value}(A:W.ownsRow B 47 8 v q D)(w:((W.alloc o1).alloc (.cells #[] 3)).grownBy w2 (some (W.heap.size+1))):((w2.setCell ⟨W.heap.size,5,none⟩ v1).alloc o3).ownsRow B 47 8 v q D :=
 zao A (fun k F=>by
  have hl:=(A.lt k F).2;have s2:=w.size;simp at s2;exact(Below.heap_alloc _ _ _ (by simp[World.setCell];omega)).trans ((yo _ _ _ _ (by simp;omega)).trans (zsL w k hl)))
theorem zsQ{W w2 w3:World}{o3:Obj}{B q:Nat}{v v1:Value}{F:List Value}(D:W.ownsRow B 47 8 v q F)(hs:W.heap.size<=w2.heap.size)(w:((w2.setCell ⟨W.heap.size,5,none⟩ v1).alloc o3).grownBy w3 v.ownBlock):∀ k,k<B->k<W.heap.size->w3.heap[k]?=w2.heap[k]?:=fun k I A =>
 (w.block k (by simp[World.setCell];omega) (fun e=>by have:=(D.lt k e.symm).1;omega)).trans ((Below.heap_alloc _ _ _ (by simp[World.setCell];omega)).trans (yo _ _ _ _ (by simp;omega)))
theorem zeL(a:Option Addr)(c:Nat)(S:List Nd)(w:World)(hN:S.length*80<=140737488355328)(hB:∀ i,i<S.length->(nd S i).ks.length*8<=140737488355328)(hS:zae w a S) :
  Calls Tryz.prog 82 #[.agg #[.slice a S.length c]] w fun e w' => ∃ v K,e=.returned (.agg #[v])/\Below w.heap.size w w' /\ zca w.heap.size S S.length K v w' := by
 obtain⟨i0,f0,f9,g0,g3⟩:=info_parts zoh;have HS:Hid (zae w a S):=hS;have g7:S.length<=9223372036854775807:=by omega
 have HB:Hid _:=hB;clear hS hB;generalize hn:S.length=n at *;have HN:Hid _:=hn;clear hn
 go_enter Tryz.func82,Tryz.ntmps82
 go_wp2
 go_loopg [9] n (fun g s9 wr=>∃ (q:Nat) (K:Nat->Value) (v:Value),q<=n/\n-q<=g/\s9=.int .i64 q/\Hid (zse w S q K v wr))
 case atStart =>
  refine⟨0,fun _=>.slice none 0 0,.slice none 0 0,by omega,by omega,rfl,(show Hid (zse _ _ _ _ _ _) from ⟨(((yj _ _).alloc (yi _) _).alloc (by simp) _).alloc (by simp;omega) _,by simp,?_,?_,World.ownsRow_nil _ _ _ _,fun i hi=>by omega⟩)⟩
  ·exact((zgO.new _ _ _ (by simp)).alloc _)
  ·exact zgO.new _ _ _ (by simp)
 case round =>
  obtain⟨q,K,v,hq,hg,rfl,I⟩:=hrel;by_cases e0:q<n
  ·have g4:(q:Int)<(n:Int):=by omega
   obtain⟨nb,no,rfl,c0,c1,c2,c3,c4,⟨ka,kc,c5,d9⟩,c6,c7⟩:=(HS.out.below I.out.1) q (by rw[HN.out];exact e0);have a9:Hid (zaj wr ka (nd S q).ks):=d9;have f6:=HB.out q e0;have h3:=I.out.2.1;have e6:=I.out.2.2.2.1.cell;have e7:=I.out.2.2.2.1.frozen;have J:=I.out.2.2.2.2.1
   obtain⟨M,O,rfl⟩:∃ M O,v=.slice M q O:=by
    rcases J.2 with ⟨h,h0⟩ |⟨g,cap,b8,h,_⟩
    ·exact⟨none,0,by rw[h,h0]⟩
    ·exact⟨_,cap,h⟩
   have HM:Hid _:=J;clear J;have Z:=fun w2 w3 v1 v2 o1 o3=>zse.step (w2:=w2) (w3:=w3) (v1:=v1) (v2:=v2) (o1:=o1) (o3:=o3) I.out;have T:Hid _:=Z;have OL:Hid (((wr.alloc (.cells #[.bool (nd S q).u,.int .i64 (nd S q).n,.int .i64 (nd S q).t,.int .i64 (nd S q).m,.int .i64 (nd S q).p,.slice ka (nd S q).ks.length kc,.int .i64 (nd S q).h,.bool (nd S q).c] 47)).alloc (.cells #[] 3)).ownsRow (wr.heap.size+1) 3 1 (.slice (some ⟨wr.heap.size+1,0,none⟩) 0 0) 0 []):=zoF wr _;have a6:0+(nd S q).ks.length<=maxLen:=by unfold maxLen;omega
   have a5:(0+(nd S q).ks.length)*8<=140737488355328:=by omega
   have g8:w.heap.size<=wr.heap.size:=by omega
   clear d9 Z I;generalize hx:nd S q=x at *;obtain⟨xu,xn,xt,xm,xp,c9,xh,xc⟩:=x;dsimp only at c0 c1 c2 c3 c4 c5 c6 c7 a9 f6 OL a6 a5;have HX:Hid _:=hx;clear hx;generalize hL:c9.length=L at *;have HL:Hid _:=hL;clear hL
   go_wp2_with (at_builtin;refine zcu rfl (.tmp 13) (.tmp 15) rfl (wr.heap.size+1) (.slice (some ⟨wr.heap.size+1,0,none⟩) 0 0) 0 [] ?hs ?how ka L kc c9 ?hx HL.out ?hI a6 a5 ?hbase ?_)
   case how=>exact OL.out
   case hI=>exact a9.out.below (((yj _ _).alloc (yi _) _).alloc (by simp) _)
   intro v1 w2 U A e8
   obtain⟨g1,F,rfl⟩:∃ g1 F,v1=.slice (some ⟨g1,0,none⟩) L F:=by
    rcases U.2 with ⟨h,_⟩ |⟨g,cap,b8,h,_⟩
    ·exact absurd h e8
    ·exact⟨g,cap,h⟩
   obtain⟨⟨b0,b1,b2,b3,b4,b5,b6,b7⟩,bf,hs2⟩:=zsR A;have a7:w2.cell? ⟨w.heap.size+1+1,0,none⟩=some (.slice M q O):=(yw (zsL A _ (by show w.heap.size+1+1 < _;omega))).trans e6;have a8:w2.frozen? ⟨w.heap.size+1+1,0,none⟩=false:=(World.frozen?_of_block (zsL A _ (by show w.heap.size+1+1 < _;omega))).trans e7;have OM:Hid (∀ o3,((w2.setCell ⟨wr.heap.size,5,none⟩ (.slice (some ⟨g1,0,none⟩) L F)).alloc o3).ownsRow (w.heap.size+3) 47 8 (.slice M q O) q (zcR S K q)):=fun o3=>zrO HM.out A;have st2:=fun w3 v2 o3=>T.out w2 w3 (.slice (some ⟨g1,0,none⟩) L F) v2 _ o3 A U;have d8:Hid _:=st2;clear st2;clear OL a9 T e6 e7 c0 c1 c2 c3 c4 c5 c6 c7;have c8:q+1<=maxLen:=by unfold maxLen;omega
   have b9:(q+1)*80<=140737488355328:=by omega
   go_wp2_with (at_builtin;refine wpList_append_own _ rfl (.tmp 19) (.tmp 21) 22 rfl (w.heap.size+3) 47 i0 _ 8 80 Tryz.underlying22 f0 f9 g0 g3 rfl (by decide) (.slice M q O) q (zcR S K q) ?hs2 ?how2 ⟨w2.heap.size,0,none⟩ 1 1 (zdi ⟨xu,xn,xt,xm,xp,c9,xh,xc⟩ (.slice (some ⟨g1,0,none⟩) L F)) ?hx2 rfl ?c1 ?c2 c8 b9 ?hbase2 ?_)
   case how2=>exact OM.out _
   case hs2=>rfl
   case hx2=>rfl
   case c1=>exact zsM (by go_simp) (by go_simp) (by go_simp) (by go_simp) (by go_simp) (by go_simp) (by go_simp) (by go_simp)
   case c2=>exact zsS
   case hbase2=>simp;omega
   intro v2 w3 V D _
   obtain⟨g2,a4,rfl⟩:∃ g2 a4,v2=.slice (some ⟨g2,0,none⟩) (q+1) a4:=by
    rcases V.2 with ⟨_,h⟩ |⟨g,cap,b8,h,_⟩
    ·omega
    ·exact⟨g,cap,h⟩
   have d6:=d8.out _ _ _ D V;have d7:Hid _:=d6;have g5:w3.cell? ⟨w.heap.size+1+1,0,none⟩=some (.slice M q O):=(yw (zsQ HM.out (by omega) D _ (by show w.heap.size+1+1 < _;omega) (by show w.heap.size+1+1 < _;omega))).trans a7;have g6:w3.frozen? ⟨w.heap.size+1+1,0,none⟩=false:=(World.frozen?_of_block (zsQ HM.out (by omega) D _ (by show w.heap.size+1+1 < _;omega) (by show w.heap.size+1+1 < _;omega))).trans a8;clear a7 a8 d6 V D d8 OM U A e8 b0 b1 b2 b3 b4 b5 b6 b7 bf
   go_wp2
   go_roundg (n-(q+1))
   case measure=>omega
   case rel=>exact⟨q+1,_,_,by omega,by omega,by go_num,d7⟩
  ·have:q=n:=by omega
   subst this;have f7:=I.out.2.2.1.cell;have h2:=I.out.2.2.1.frozen;have g9:=I.out.2.2.2.1.cell;have HK:Hid _:=I.out.2.2.2.2;have e9:Hid (Below w.heap.size w wr):=I.out.1;have J:=I.out.2.2.2.2.1
   obtain⟨M,O,rfl⟩:∃ M O,v=.slice M q O:=by
    rcases J.2 with ⟨h,h0⟩ |⟨g,cap,b8,h,_⟩
    ·exact⟨none,0,by rw[h,h0]⟩
    ·exact⟨_,cap,h⟩
   clear J I
   go_wp2
   have f8:(wr.setCell ⟨w.heap.size+1,0,none⟩ (.slice M q O)).cell? ⟨w.heap.size+1,0,none⟩=some (.slice M q O):=World.cell?_setCell_same _ _ _ f7;refine yq (v:=.agg #[.slice M q O]) (by simp[results,Tryz.results82,go_sem,f8]) rfl ?_;refine⟨_,K,rfl,e9.out.setCell (by simp) _,?_⟩;have e4:∀ k,w.heap.size+3<=k->(wr.setCell ⟨w.heap.size+1,0,none⟩ (.slice M q O)).heap[k]?=wr.heap[k]?:=fun k hk=>yo _ _ _ _ (by simp;omega);exact⟨zao (zau HK.out.1 (by omega)) (fun k hk=>e4 k (HK.out.1.lt k hk).1),fun i hi=>zao (zau (HK.out.2 i hi) (by omega)) (fun k hk=>e4 k ((HK.out.2 i hi).lt k hk).1)⟩
theorem zcK(S:List Nd)(K:Nat->Value)(q:Nat):(zcR S K q).length=q*8:=by
 unfold zcR
 induction q with
 | zero=>rfl
 | succ q w=>rw[List.range_succ,List.flatMap_append,List.length_append,w];simp[zdi];omega
theorem zfo(S:List Nd)(K:Nat->Value){q i j:Nat}(A:i<q)(D:j<8):(zcR S K q)[i*8+j]?=(zdi (nd S i) (K i))[j]?:=by
 induction q with
 | zero=>omega
 | succ q w =>
  have hs:zcR S K (q+1)=zcR S K q++zdi (nd S q) (K q):=by unfold zcR;rw[List.range_succ,List.flatMap_append];simp
  rw[hs];by_cases e:i<q
  ·rw[List.getElem?_append_left (by rw[zcK];omega)];exact w e
  ·have:i=q:=by omega
   subst this;rw[List.getElem?_append_right (by rw[zcK];omega),zcK]
   congr 1
   omega
theorem zca.nds{B:Nat}{S:List Nd}{K:Nat->Value}{v:Value}{w:World}(h:zca B S S.length K v w):∃ a c,v=.slice a S.length c/\zae w a S:=by
 obtain⟨I,O⟩:=h;have F:=I;obtain⟨hl,h⟩:=I;rcases h with ⟨rfl,h0⟩ |⟨g,cap,J,rfl,hb,hg,h1,V,Z,h4⟩
 ·exact⟨none,0,by rw[h0],fun i D=>by omega⟩
 ·refine⟨some ⟨g,0,none⟩,cap,rfl,fun i D=>⟨g,0,rfl,?_⟩⟩
  have A:∀ j,j<8->w.cell? ⟨g,i*8+j,none⟩=(zdi (nd S i) (K i))[j]?:=fun j M=>by
   rw[<- zfo S K D M];exact F.cellAt (i*8+j) (by omega)
  obtain⟨T,U,e1,e2⟩:=zcp (O i D);rw[yv];refine⟨A 0 (by omega),A 1 (by omega),A 2 (by omega),A 3 (by omega),A 4 (by omega),⟨T,U,?_,e2⟩,A 6 (by omega),A 7 (by omega)⟩;rw[A 5 (by omega),e1];rfl
theorem zca.ndsAt{B:Nat}{S:List Nd}{n:Nat}{K:Nat->Value}{g cap:Nat}{w:World}(h:zca B S n K (.slice (some ⟨g,0,none⟩) n cap) w)(hl:S.length=n):zae w (some ⟨g,0,none⟩) S:=by
 subst hl;obtain⟨a,c,e,A⟩:=h.nds;cases e;exact A
theorem zmm{S S' : List Nd}{K K' : Nat->Value}{q k j:Nat}{u:Value}(F:j<8)
  (D:∀ i,i<q->∀ w,w<8->(zdi (nd S' i) (K' i))[w]?=if i=k/\w=j then some u else (zdi (nd S i) (K i))[w]?):(zcR S K q).set (k*8+j) u=zcR S' K' q:=by
 refine List.ext_getElem? (fun m=>?_);by_cases I:m<q*8
 ·have h1:m / 8<q:=by omega
  have A:m % 8<8:=by omega
  have e:m=m / 8*8+m % 8:=by omega
  rw[e,zfo S' K' h1 A,D _ h1 _ A,List.getElem?_set];by_cases hh:m / 8=k/\m % 8=j
  ·rw[yd (by omega),yd (by rw[zcK];omega),yd hh]
  ·rw[ya (by omega),ya hh,zfo S K h1 A]
 ·rw[List.getElem?_eq_none (by rw[List.length_set,zcK];omega),List.getElem?_eq_none (by rw[zcK];omega)]
theorem zca.put{B:Nat}{S S' : List Nd}{q:Nat}{K K' : Nat->Value}{g cap:Nat}{w:World}(h:zca B S q K (.slice (some ⟨g,0,none⟩) q cap) w){k j:Nat}{u:Value}(O:j<8)
  (M:∀ i,i<q->∀ D,D<8->(zdi (nd S' i) (K' i))[D]?=if i=k/\D=j then some u else (zdi (nd S i) (K i))[D]?)
  (A:∀ i,i<q->w.ownsRow B 3 1 (K' i) (nd S' i).ks.length ((nd S' i).ks.map (Value.int .i64))):zca B S' q K' (.slice (some ⟨g,0,none⟩) q cap) (w.setCell ⟨g,k*8+j,none⟩ u):=by
 refine⟨?_,fun i I=>?_⟩
 ·have F:=(h.1.stored (k*8+j) u).1;rw[zmm O M] at F;exact F
 ·exact zao (A i I) (fun b J=>yo _ _ _ _ (fun e=>zbH (A i I) h.1 (by decide) b J (by rw[show b=g from e];rfl)))
theorem zca.other{B:Nat}{S:List Nd}{q:Nat}{K:Nat->Value}{v:Value}{w w' : World}(h:zca B S q K v w)(F:∀ b,B<=b->b<w.heap.size->w'.heap[b]?=w.heap[b]?):zca B S q K v w' :=
 ⟨zao h.1 (fun k A=>F k (h.1.lt k A).1 (h.1.lt k A).2),fun i D=>zao (h.2 i D) (fun k A=>F k ((h.2 i D).lt k A).1 ((h.2 i D).lt k A).2)⟩
theorem zca.cellAt{B:Nat}{S:List Nd}{q:Nat}{K:Nat->Value}{g cap:Nat}{w:World}(h:zca B S q K (.slice (some ⟨g,0,none⟩) q cap) w){i j:Nat}(A:i<q)(D:j<8):w.cell? ⟨g,i*8+j,none⟩=(zdi (nd S i) (K i))[j]?:=by
 rw[<- zfo S K A D];exact h.1.cellAt (i*8+j) (by omega)
theorem zca.frozenAt{B:Nat}{S:List Nd}{q:Nat}{K:Nat->Value}{g cap:Nat}{w:World}(h:zca B S q K (.slice (some ⟨g,0,none⟩) q cap) w)(j:Nat):w.frozen? ⟨g,j,none⟩=false:=h.1.frozenAt j
theorem zca.put1{B:Nat}{S:List Nd}{q:Nat}{K:Nat->Value}{g cap:Nat}{w:World}(h:zca B S q K (.slice (some ⟨g,0,none⟩) q cap) w){k j:Nat}{u:Value}(M:k<q)(hq:S.length=q)(J:j<8)(x:Nd)
  (hx:∀ v A,A<8->(zdi x v)[A]?=if A=j then some u else (zdi (nd S k) v)[A]?) (I:x.ks=(nd S k).ks):zca B (S.set k x) q K (.slice (some ⟨g,0,none⟩) q cap) (w.setCell ⟨g,k*8+j,none⟩ u):=by
 refine h.put J (fun i D A F=>?_) (fun i D=>?_)
 ·by_cases e:i=k
  ·subst e;rw[zay S i i x (by omega),yd rfl,hx _ _ F];by_cases e2:A=j
   ·rw[yd e2,yd ⟨rfl,e2⟩]
   ·rw[ya e2,ya (fun hh=>e2 hh.2)]
  ·rw[zay S k i x (by omega),ya e,ya (fun hh=>e hh.1)]
 ·by_cases e:i=k
  ·subst e;rw[zay S i i x (by omega),yd rfl,I];exact h.2 i D
  ·rw[zay S k i x (by omega),ya e];exact h.2 i D
end Go.Proofs.YtgjfmepbphfjoaaGreat
