/-
  x
-/
import Derived.Test.YtojlkdekdbdpoaaGreatJDnCtDkDwaOw
import Derived.Test.YtojlkdekdbdpoaaGreatJSkSlSmBkTa
import Derived.Deep.RegionHeld3
import Derived.Test.YtojlkdekdbdpoaaGreatJMwRmRm2Rm3
import Derived.Test.YtojlkdekdbdpoaaGreatJSrWfXdZaTlTmTnZf
import Derived.Test.YtojlkdekdbdpoaaGreatJDfRaRbRh
namespace Go.Proofs.YtojlkdekdbdpoaaGreat
set_option maxRecDepth 100000
set_option maxHeartbeats 4000000
open Go.RowKit Go.ChangeShapes Go.WideShapes
set_option linter.unusedVariables false
theorem zno:(Tryz.prog.info? 73).map (fun i=>(i.zero,i.size,i.bytes))=some (some (.agg #[.int .i64 0,.slice none 0 0]),2,32):=by kernel_rfl
theorem zpC(n:Nat)(hn:n≤1000)(w:World):(Instr.makeSlice 26 (.int .i64 (n:Int)) (.int .i64 (n:Int))).run Tryz.prog w=.ok (.slice (some ⟨w.heap.size,0,none⟩) n n) (w.alloc (.cells (madeCells #[.int .i64 0,.slice none 0 0] (n*2)) 73)):=by
 obtain⟨i,hi,hz0,hz1,hz2⟩:=info_parts zno
 have h:=run_make (P:=Tryz.prog) w 26 73 i _ Tryz.underlying26 hi hz0 .i64 .i64 n n (by omega) (by omega) (by rw[hz2];omega) (by omega)
 rw[hz1] at h
 simp only[Int.toNat_natCast] at h
 exact h
theorem ziP(w:World)(n:Nat):(w.alloc (.cells (madeCells #[.int .i64 0,.slice none 0 0] (n*2)) 73)).rowIs w.heap.size 73 (n*2) (fun j=>(#[.int .i64 0,.slice none 0 0]:Array Value)[j % 2]!):=by
 have h:=World.rowIs_alloc w (madeCells #[.int .i64 0,.slice none 0 0] (n*2)) 73 (fun j=>(#[.int .i64 0,.slice none 0 0]:Array Value)[j % 2]!) (fun i hi=>by rw[size_madeCells] at hi;simp[madeCells,hi])
 rw[size_madeCells] at h
 exact h
def CgI(B g:Nat)(G:List Cl)(k:Nat)(w:World):Prop:=B≤g∧∃ F,w.rowIs g 73 (G.length*2) F∧∀ i,i<k→F (i*2)=.int .i64 (cl G i).n∧∃ ka kc,F (i*2+1)=.slice ka (cl G i).ks.length kc∧St (fun b=>b≤g) (fun w=>zah w ka (cl G i).ks) w
theorem CgI.step{B g k:Nat}{G:List Cl}{wr w3:World}(h:CgI B g G k wr)(hk:k<G.length)(hb:Below wr.heap.size wr w3){kg:Nat}(hkg:wr.heap.size≤kg)(hrow:w3.rowIs kg 3 (cl G k).ks.length (fun j=>.int .i64 ((cl G k).ks.getD j 0))) :
  CgI B g G (k+1) ((w3.setCell ⟨g,k*2,none⟩ (.int .i64 (cl G k).n)).setCell ⟨g,k*2+1,none⟩ (.slice (some ⟨kg,0,none⟩) (cl G k).ks.length (cl G k).ks.length)):=by
 obtain⟨hB,F,hF,hN⟩:=h
 have hg:=hF.lt
 have hF3:=hF.of_block (hb.block g hg)
 have o3:OffX (fun b=>b≤g) w3 ((w3.setCell ⟨g,k*2,none⟩ (.int .i64 (cl G k).n)).setCell ⟨g,k*2+1,none⟩ (.slice (some ⟨kg,0,none⟩) (cl G k).ks.length (cl G k).ks.length)):=(OffX.set (X:=fun b=>b≤g) w3 _ (Nat.le_refl g)).trans (OffX.set (X:=fun b=>b≤g) _ _ (Nat.le_refl g))
 have o4:OffX (fun b=>b≤g) wr w3:=OffX.of_below hb
 refine⟨hB,_,(hF3.set (k*2) _).set (k*2+1) _,fun i hi=>?_⟩
 by_cases e:i=k
 ·subst e
  refine⟨by simp,some ⟨kg,0,none⟩,(cl G i).ks.length,by simp,fun w' ho=>zoG (hrow.of_block ?_)⟩
  have hl:=hrow.lt
  exact((o3.trans ho).block kg hl (by show ¬ kg≤g;omega))
 ·obtain⟨h1,ka,kc,h2,h3⟩:=hN i (by omega)
  refine⟨?_,ka,kc,?_,h3.off (o4.trans o3)⟩
  ·rw[if_neg (by omega),if_neg (by omega)];exact h1
  ·rw[if_neg (by omega),if_neg (by omega)];exact h2
theorem CgI.cls{B g:Nat}{G:List Cl}{w:World}(h:CgI B g G G.length w):St (fun b=>b<B) (fun w=>ClsAt w (some ⟨g,0,none⟩) G) w:=fun w' ho i hi=>by
 obtain⟨hB,F,hF,hN⟩:=h
 have hF' := hF.of_block (ho.block g hF.lt (by show ¬ g<B;omega))
 obtain⟨h1,ka,kc,h2,h3⟩:=hN i hi
 refine⟨g,0,rfl,?_⟩
 rw[Nat.zero_add]
 exact⟨by rw[hF'.cell (by omega),h1],ka,kc,by rw[hF'.cell (by omega),h2],h3 w' (ho.mono (fun b hb=>by show b≤g;have:b<B:=hb;omega))⟩
theorem CgI.off{B g k:Nat}{G:List Cl}{w w' : World}(h:CgI B g G k w)(ho:OffX (fun b=>b<g) w w'):CgI B g G k w' := by
 obtain⟨hB,F,hF,hN⟩:=h
 refine⟨hB,F,hF.of_block (ho.block g hF.lt (by show ¬ g<g;omega)),fun i hi=>?_⟩
 obtain⟨h1,ka,kc,h2,h3⟩:=hN i hi
 exact⟨h1,ka,kc,h2,h3.off (ho.mono (fun b hb=>by show b≤g;have:b<g:=hb;omega))⟩
theorem zkp(a:Option Addr)(c:Nat)(G:List Cl)(w:World)(hN:G.length≤1000)(hK:∀ i,i<G.length→(cl G i).ks.length≤1000)(hG:ClsAt w a G) :
  Calls Tryz.prog 57 #[.agg #[.slice a G.length c]] w fun e w' => ∃ g,e=.returned (.agg #[.slice (some ⟨g,0,none⟩) G.length G.length])∧Below w.heap.size w w' ∧ ClsSt (fun b=>b<w.heap.size) w' (some ⟨g,0,none⟩) G:=by
 have HG:Hid (ClsAt w a G):=hG
 have HK:Hid _:=hK
 have ST:Hid (∀ (wr w3:World) (k kg:Nat),CgI w.heap.size (w.heap.size+1+1) G k wr→k<G.length→Below wr.heap.size wr w3→wr.heap.size≤kg→w3.rowIs kg 3 (cl G k).ks.length (fun j=>.int .i64 ((cl G k).ks.getD j 0))→_):=fun wr w3 k kg h1 h2 h3 h4 h5=>CgI.step h1 h2 h3 h4 h5
 have FN:Hid (∀ wr:World,CgI w.heap.size (w.heap.size+1+1) G G.length wr→_):=fun wr h=>CgI.cls h
 have ZR:Hid (∀ W:World,W.heap.size=w.heap.size+1+1→CgI w.heap.size (w.heap.size+1+1) G 0 (W.alloc (.cells (madeCells #[.int .i64 0,.slice none 0 0] (G.length*2)) 73))):=fun W hW=>by
  have h:=ziP W G.length
  rw[hW] at h
  exact⟨by omega,_,h,fun i hi=>absurd hi (Nat.not_lt_zero _)⟩
 have OC:Hid (∀ (wr:World) (k:Nat),CgI w.heap.size (w.heap.size+1+1) G k wr→k<G.length→(w.heap.size+1+1<wr.heap.size∧(∀ o,wr.frozen? ⟨w.heap.size+1+1,o,none⟩=false)∧∃ x y,wr.cell? ⟨w.heap.size+1+1,k*2,none⟩=some x∧wr.cell? ⟨w.heap.size+1+1,k*2+1,none⟩=some y)):=fun wr k h hk=>by
  obtain⟨_,F,hF,_⟩:=h
  exact⟨hF.lt,hF.frozen,_,_,hF.cell (by omega),hF.cell (by omega)⟩
 clear hG hK
 obtain⟨n,hn⟩:∃ n,G.length=n:=⟨_,rfl⟩
 have HN:Hid (G.length=n):=hn
 rw[hn] at hN HK ST FN ZR OC ⊢
 clear hn
 have hmk:=zpC n hN
 go_enter Tryz.func57,Tryz.ntmps57
 go_wp2
 go_loopg [13] n (fun g s13 wr=>∃ k:Nat,k≤n∧n-k≤g∧s13=.int .i64 k∧Below (w.heap.size+1+1) ((w.alloc (Obj.cells #[Value.slice a n c] 28)).alloc (Obj.cells #[Value.slice none 0 0] 28)) wr∧Hid (CgI w.heap.size (w.heap.size+1+1) G k wr))
 case atStart=>exact⟨0,by omega,by omega,rfl,(Below.refl _ _).alloc (by simp) _,ZR.out _ (by simp)⟩
 case round =>
  obtain⟨k,hk,hg,rfl,hb,O⟩:=hrel
  have hB0:Below w.heap.size w wr:=(zaf _ _ _).trans (hb.mono (by omega))
  by_cases hlt:k<n
  ·have hlt2:(k:Int)<(n:Int):=by omega
   obtain⟨b,o,rfl,hnd⟩:=HG.out k (by rw[HN.out];exact hlt)
   obtain⟨c0,ka,kc,c1,hks⟩:=hnd.below hB0
   have hbw:=World.block_lt_of_cell? _ _ c0
   obtain⟨hgl,hfz,x,y,r0,r1⟩:=OC.out _ _ O.out hlt
   have d1:=fun W (hW:Below wr.heap.size wr W)=>zfc ka kc (cl G k).ks W (Nat.le_trans (HK.out k hlt) (by omega)) (hks.below hW)
   have D1:Hid _:=d1
   have ST2:Hid (∀ (w3:World) (kg:Nat),Below wr.heap.size wr w3→wr.heap.size≤kg→w3.rowIs kg 3 (cl G k).ks.length (fun j=>.int .i64 ((cl G k).ks.getD j 0))→_):=fun w3 kg h3 h4 h5=>ST.out wr w3 k kg O.out hlt h3 h4 h5
   clear hks hnd d1
   generalize cl G k=z at *
   obtain⟨zn,zks⟩:=z
   dsimp only at c0 c1 D1 ST2
   obtain⟨l,hl⟩:∃ l,zks.length=l:=⟨_,rfl⟩
   rw[hl] at c1 D1 ST2
   clear hl
   have hszr:w.heap.size+1+1<wr.heap.size:=hgl
   go_wp2_with fail
   obtain⟨V,hV⟩:∃ V,wr.alloc (.cells #[.int .i64 zn,.slice ka l kc] 73)=V:=⟨_,rfl⟩
   have v0:V.cell? ⟨wr.heap.size,0,none⟩=some (.int .i64 zn):=by rw[← hV];exact zac _ _ _ 0 rfl
   have v1:V.cell? ⟨wr.heap.size,1,none⟩=some (.slice ka l kc):=by rw[← hV];exact zac _ _ _ 1 rfl
   have BV:Hid (Below wr.heap.size wr V):=by rw[← hV];exact zab _ _
   have sV:wr.heap.size<V.heap.size:=World.block_lt_of_cell? _ _ v0
   have g0:=keepC r0 BV.out
   have g1:=keepC r1 BV.out
   have sg:w.heap.size+1+1<V.heap.size:=World.block_lt_of_cell? _ _ g0
   have ne1:¬ w.heap.size+1+1=wr.heap.size:=by omega
   have ne2:¬ wr.heap.size=w.heap.size+1+1:=by omega
   rw[hV]
   clear hV
   go_region_held3 (fun w'' => w''.cell? ⟨wr.heap.size,0,none⟩=some (.int .i64 zn)∧w''.cell? ⟨wr.heap.size,1,none⟩=some (.slice ka l kc)) (go_keep) (first|(go_at_call 100;refine Calls.mono (D1.out _ ?nd) ?_;(case nd=>exact BV.out.drew);rintro e w3 ⟨rfl,hb3,hrow⟩;have HV3:Hid (Below V.heap.size V w3):=(Below.refl V.heap.size V).drew.trans hb3;have HB3:Hid (Below wr.heap.size wr w3):=BV.out.trans (HV3.out.mono BV.out.size);have HR:Hid (w3.rowIs V.heap.size 3 l (fun j=>.int .i64 (zks.getD j 0))):=hrow;have u0:=keepC v0 HV3.out;have u1:=keepC v1 HV3.out;have q0:=keepC g0 HV3.out;have q1:=keepC g1 HV3.out;have fz:=fun o=>(HB3.out.frozen (show (⟨w.heap.size+1+1,o,none⟩:Addr).block<wr.heap.size from hgl)).trans (hfz o);have s3:V.heap.size<w3.heap.size:=World.rowIs.lt hrow;clear hb3 hrow))
   have N3:Hid _:=ST2.out w3 V.heap.size HB3.out BV.out.size HR.out
   clear u0 u1 q0 q1 fz
   obtain⟨X,hX⟩:∃ X,(w3.setCell ⟨w.heap.size+1+1,k*2,none⟩ (.int .i64 zn)).setCell ⟨w.heap.size+1+1,k*2+1,none⟩ (.slice (some ⟨V.heap.size,0,none⟩) l l)=X:=⟨_,rfl⟩
   have BX:Hid (Below (w.heap.size+1+1) ((w.alloc (Obj.cells #[Value.slice (some ⟨b,o,none⟩) n c] 28)).alloc (Obj.cells #[Value.slice none 0 0] 28)) X):=by
    rw[← hX]
    exact((hb.trans (HB3.out.mono (by have:=hb.size;simp at this;omega))).setCell (by simp) _).setCell (by simp) _
   rw[hX] at N3 ⊢
   clear hX
   go_wp2_with fail
   go_roundg (n-(k+1))
   case measure=>omega
   case rel=>exact⟨k+1,by omega,by omega,by go_num,BX.out,N3⟩
  ·have:k=n:=by omega
   subst this
   have y1:wr.cell? ⟨w.heap.size+1,0,none⟩=some (.slice none 0 0):=(hb.cell (by simp)).trans (by go_simp)
   have y2:∀ o,wr.frozen? ⟨w.heap.size+1,o,none⟩=false:=fun o=>(hb.frozen (by simp)).trans (by go_simp)
   have FN2:Hid (ClsSt (fun b=>b<w.heap.size) (wr.setCell ⟨w.heap.size+1,0,none⟩ (.slice (some ⟨w.heap.size+1+1,0,none⟩) k k)) (some ⟨w.heap.size+1+1,0,none⟩) G):=FN.out _ (O.out.off (OffX.set _ _ (by show w.heap.size+1<w.heap.size+1+1;omega)))
   go_wp2
   refine bodyPost_ret (v:=.agg #[.slice (some ⟨w.heap.size+1+1,0,none⟩) k k]) (by simp[results,Tryz.results57,go_sem,y1]) rfl ⟨w.heap.size+1+1,rfl,hB0.setCell (by simp) _,FN2.out⟩
end Go.Proofs.YtojlkdekdbdpoaaGreat

namespace Go.Proofs.YtojlkdekdbdpoaaGreat
open Go.RowKit Go.ChangeShapes Go.WideShapes
set_option linter.unusedVariables false
theorem zfY{P:Program}(w:World)(dT sT ty elem:TypeId)(i:TypeInfo)(d a:Option Addr)(dLen dCap sLen sCap:Nat)(hu:P.underlying dT=some (.slice elem))(hq:P.info? elem=some i)(hn:Nat.min sLen dLen=0) :
  (Builtin.copy_ #[dT,sT] ty #[.slice d dLen dCap,.slice a sLen sCap]).run P w=.ok (goInt 0) w:=by
 have hl:∀ (x:Addr),(loadCells x 0).run P w=.ok #[] w:=fun x=>by simpa using run_loadCells_list (P:=P) w x [] (by simp)
 cases d <;> cases a <;> simp[Builtin.copy_,run_underlying hu,Builtin.lenOf,Builtin.firstCells,sizeOf,typeInfo,hq,hn,storeCells,hl]
theorem zdq{P:Program}{w:World}{ops:Array Oper}{rest:List Oper}{o:Oper}{a:Act}{Q:Exit→Act→World→Prop}(hgd:o.guard=none)(d s:Operand)(dT sT:TypeId)
  (ho:o.op=.call { callee:=.builtin .copy,args:=#[d,s],argTypes:=#[dT,sT] }) (elem:TypeId) (i:TypeInfo) (size:Nat) (hu:P.underlying dT=some (.slice elem)) (hi:P.info? elem=some i) (hz:i.size=size)
  (g n dCap:Nat) (sa:Option Addr) (sCap:Nat) (hd:a.eval d=.slice (some ⟨g,0,none⟩) n dCap) (hs:a.eval s=.slice sa n sCap)
  (cur:List Value) (t:TypeId) (hg:w.heap[g]?=some (.cells cur.toArray t (0,0))) (cs:List Value) (hl:cs.length=n*size) (hcur:cur.length=n*size) (hnil:sa=none→n=0)
  (hsrc:∀ ad,sa=some ad→∀ j v,cs[j]?=some v→w.cell? (ad.add j)=some v) (h1:∀ v ∈ cs,v.oneCell' = true)
  (h:∀ w', Hid (w'.heap[g]?=some (.cells cs.toArray t (0,0)))→Hid (∀ B w0,Below B w0 w→B≤g→Below B w0 w')→wpList P ops Q rest (a.put o.dst (goInt n)) w'):wpList P ops Q (o :: rest) a w:=by
 subst hz
 by_cases h0:n=0
 ·subst h0
  rw[Nat.zero_mul] at hl hcur
  obtain rfl:cs=[]:=List.eq_nil_of_length_eq_zero hl
  obtain rfl:cur=[]:=List.eq_nil_of_length_eq_zero hcur
  refine wpList_plain hgd fun K hK=>?_
  have hrun:=zfY (P:=P) w dT sT o.type elem i (some ⟨g,0,none⟩) sa 0 dCap 0 sCap hu hi rfl
  unfold Oper.wp
  simp[execOp,ho,resolve,invoke,builtin,hd,hs,hrun,Result.andThen]
  exact hK _ _ (h w hg (fun _ _ hb _=>hb))
 ·cases sa with
  | none=>exact absurd (hnil rfl) h0
  | some ad =>
   refine zdr hgd d s dT sT ho elem i hu hi g 0 n dCap ad n sCap n hd hs cur t hg cs (Nat.min_self n).symm hl (hsrc ad rfl) (by omega) h1 (fun w' hw hb=>h w' ?_ hb)
   show _=_
   rw[hw]
   simp[hl,hcur]
end Go.Proofs.YtojlkdekdbdpoaaGreat

namespace Go.Proofs.YtojlkdekdbdpoaaGreat
open Go.RowKit Go.ChangeShapes Go.WideShapes
set_option linter.unusedVariables false
theorem St.grow{X Y:Nat→Prop}{P:World→Prop}{w w1:World}(h:St X P w)(ho:OffX X w w1)(hY:∀ b,b<w.heap.size→Y b→X b):St Y P w1:=fun w' h2=>h w' (zjo ho.size ho.block hY h2)
def hcF(hs:List (Int × Int)):Nat→Value:=fun j=>.int .i64 (if j % 2=0 then (hs.getD (j / 2) (0,0)).1 else (hs.getD (j / 2) (0,0)).2)
theorem hcF_0(hs:List (Int × Int))(i:Nat):hcF hs (i*2)=.int .i64 (hs.getD i (0,0)).1:=by
 unfold hcF
 rw[if_pos (by omega),show i*2 / 2=i by omega]
theorem hcF_1(hs:List (Int × Int))(i:Nat):hcF hs (i*2+1)=.int .i64 (hs.getD i (0,0)).2:=by
 unfold hcF
 rw[if_neg (by omega),show (i*2+1) / 2=i by omega]
theorem zeG{w:World}{h:Nat}{hs:List (Int × Int)}(hr:w.rowIs h 60 (hs.length*2) (hcF hs)):zak w (some ⟨h,0,none⟩) hs:=fun i hi=>by
 refine⟨h,0,rfl,?_,?_⟩
 ·rw[Nat.zero_add,hr.cell (by omega),hcF_0]
 ·rw[Nat.zero_add,hr.cell (by omega),hcF_1]
theorem zoZ(hs:List (Int × Int))(k:Nat)(x:Int × Int)(hk:k<hs.length):(fun j=>if j=k*2+1 then Value.int .i64 x.2 else if j=k*2 then Value.int .i64 x.1 else hcF hs j)=hcF (hs.set k x):=by
 have key:∀ i,(hs.set k x).getD i (0,0)=if i=k then x else hs.getD i (0,0):=fun i=>by
  by_cases e:i=k
  ·subst e
   rw[if_pos rfl]
   simp[List.getD_eq_getElem?_getD,hk]
  ·rw[if_neg e]
   exact zjZ _ _ _ _ _ e
 funext j
 unfold hcF
 rw[key]
 by_cases h1:j=k*2+1
 ·subst h1
  rw[if_pos rfl,if_neg (by omega),if_pos (by omega)]
 ·rw[if_neg h1]
  by_cases h2:j=k*2
  ·subst h2
   rw[if_pos rfl,if_pos (by omega),if_pos (by omega)]
  ·rw[if_neg h2,if_neg (show ¬ j / 2=k by omega)]
structure CI (w:World) (R:Rl) (h g:Nat) (A:RA) (V:World):Prop where
 bel:Below w.heap.size w V
 h0:w.heap.size≤h
 g0:w.heap.size≤g
 hg:h≠g
 a0:A.a0=some ⟨g,0,none⟩
 a1:A.a1=some ⟨h,0,none⟩
 row:V.rowIs h 60 (R.hs.length*2) (hcF R.hs)
 own:OwnR V g R.s
 sto:St (fun b=>b=h) (fun V=>NdsAt V (some ⟨g,0,none⟩) R.s) V
 cls:St (fun b=>b=h∨b=g) (fun V=>ClsAt V A.a2 R.i) V
 tld:St (fun b=>b=h∨b=g) (fun V=>zah V A.a3 R.t) V
structure WI (w:World) (R:Rl) (d h g:Nat) (A:RA) (V:World):Prop where
 bel:Below w.heap.size w V
 d0:w.heap.size≤d
 h0:w.heap.size≤h
 g0:w.heap.size≤g
 hg:h≠g
 dh:h≠d
 gd:g≠d
 a0:A.a0=some ⟨g,0,none⟩
 a1:A.a1=some ⟨h,0,none⟩
 box:V.heap[d]?=some (bxR A R)
 row:V.rowIs h 60 (R.hs.length*2) (hcF R.hs)
 own:OwnR V g R.s
 sto:St (fun b=>b=d∨b=h) (fun V=>NdsAt V (some ⟨g,0,none⟩) R.s) V
 cls:St (fun b=>b=d∨b=h∨b=g) (fun V=>ClsAt V A.a2 R.i) V
 tld:St (fun b=>b=d∨b=h∨b=g) (fun V=>zah V A.a3 R.t) V
theorem CI.wi{w V:World}{R:Rl}{h g:Nat}{A:RA}(I:CI w R h g A V):WI w R V.heap.size h g A (V.alloc (.cells #[.slice A.a0 R.s.length A.c0,.slice A.a1 R.hs.length A.c1,.slice A.a2 R.i.length A.c2,.slice A.a3 R.t.length A.c3] 31)):=by
 have hb:=zab V (.cells #[.slice A.a0 R.s.length A.c0,.slice A.a1 R.hs.length A.c1,.slice A.a2 R.i.length A.c2,.slice A.a3 R.t.length A.c3] 31)
 have hl:=I.row.lt
 have gl:g<V.heap.size:=by obtain⟨F,hF,_⟩:=I.own;exact hF.lt
 exact⟨I.bel.trans (hb.mono I.bel.size),I.bel.size,I.h0,I.g0,I.hg,by omega,by omega,I.a0,I.a1,zbE _ _ _ _ _ _,I.row.of_block (hb.block h hl),I.own.up (fun b _ hb2=>hb.block b hb2),I.sto.grow (OffX.of_below hb) (fun b hb2 hy=>hy.elim (fun e=>absurd e (by omega)) id),I.cls.grow (OffX.of_below hb) (fun b hb2 hy=>hy.elim (fun e=>absurd e (by omega)) id),I.tld.grow (OffX.of_below hb) (fun b hb2 hy=>hy.elim (fun e=>absurd e (by omega)) id)⟩
theorem WI.below{w V V' : World}{R:Rl}{d h g:Nat}{A:RA}(I:WI w R d h g A V)(hb:Below V.heap.size V V'):WI w R d h g A V' :=
 ⟨I.bel.trans (hb.mono I.bel.size),I.d0,I.h0,I.g0,I.hg,I.dh,I.gd,I.a0,I.a1,keepB I.box hb,I.row.of_block (hb.block h I.row.lt),I.own.up (fun b _ hb2=>hb.block b hb2),I.sto.off (OffX.of_below hb),I.cls.off (OffX.of_below hb),I.tld.off (OffX.of_below hb)⟩
theorem WI.nds{w V:World}{R:Rl}{d h g:Nat}{A:RA}(I:WI w R d h g A V):NdsAt V (some ⟨g,0,none⟩) R.s:=I.sto.at
theorem WI.hand{w V:World}{R:Rl}{d h g:Nat}{A:RA}(I:WI w R d h g A V){k:Nat}(hk:k<R.hs.length):V.cell? ⟨h,k*2,none⟩=some (.int .i64 (hd R k).1)∧V.cell? ⟨h,k*2+1,none⟩=some (.int .i64 (hd R k).2):=by
 have e:hd R (k:Int)=R.hs.getD k (0,0):=by unfold hd;rw[Int.toNat_natCast]
 rw[e]
 exact⟨by rw[I.row.cell (by omega),hcF_0],by rw[I.row.cell (by omega),hcF_1]⟩
theorem OwnR.mark{w:World}{g:Nat}{S:List Nd}{k:Nat}(h:OwnR w g S)(hk:k<S.length)(n:Int):OwnR (w.setCell ⟨g,k*8+3,none⟩ (.int .i64 n)) g (S.set k { nd S k with m:=n }):=by
 obtain⟨F,hF,hN⟩:=h
 refine⟨_,by rw[List.length_set];exact hF.set (k*8+3) (.int .i64 n),fun i hi=>?_⟩
 rw[List.length_set] at hi
 obtain⟨kb,kc,⟨e0,e1,e2,e3,e4,e5,e6,e7,e8,e8b,G,hG,e9⟩,hkb⟩:=hN i hi
 have hG2:=hG.setOther (a:=⟨g,k*8+3,none⟩) (by simp;omega) (.int .i64 n)
 refine⟨kb,kc,?_,hkb⟩
 rw[zav S k i _ hk]
 by_cases e:i=k
 ·subst e
  rw[if_pos rfl]
  refine⟨?_,?_,?_,?_,?_,?_,?_,?_,e8,e8b,G,hG2,e9⟩
  all_goals dsimp only
  ·rw[if_neg (by omega),e0]
  ·rw[if_neg (by omega),e1]
  ·rw[if_neg (by omega),e2]
  ·rw[if_pos rfl]
  ·rw[if_neg (by omega),e4]
  ·rw[if_neg (by omega),e5]
  ·rw[if_neg (by omega),e6]
  ·rw[if_neg (by omega),e7]
 ·rw[if_neg e]
  refine⟨?_,?_,?_,?_,?_,?_,?_,?_,e8,e8b,G,hG2,e9⟩
  all_goals
   dsimp only
   rw[if_neg (by omega)]
   assumption
end Go.Proofs.YtojlkdekdbdpoaaGreat

namespace Go.Proofs.YtojlkdekdbdpoaaGreat
set_option maxRecDepth 100000
set_option maxHeartbeats 4000000
open Go.RowKit Go.ChangeShapes Go.WideShapes
set_option linter.unusedVariables false
theorem zkx{G:List Cl}(h:zbB G=0):∀ i,i<G.length→(cl G i).ks.length≤1000:=fun i hi=>by
 unfold zbB at h
 split at h
 ·omega
 ·have:=zcX h i hi
  unfold cellE at this
  split at this
  ·omega
  ·split at this
   ·omega
   ·omega
theorem zoh{w:World}{B g:Nat}{S:List Nd}{kb kc:Nat→Nat}(h:Own w B g S kb kc S.length):OwnR w g S:=by
 obtain⟨_,F,hF,hN,hg,_⟩:=h
 exact⟨F,hF,fun i hi=>⟨kb i,kc i,hN i hi,hg i hi⟩⟩
theorem OwnR.st{w:World}{g h:Nat}{S:List Nd}(o:OwnR w g S)(hg:h<g):St (fun b=>b=h) (fun V=>NdsAt V (some ⟨g,0,none⟩) S) w:=fun w' ho=>(o.up (fun b hb hb2=>ho.block b hb2 (fun e=>by omega))).nds
def hcL(hs:List (Int × Int)):List Value:=(List.range (hs.length*2)).map (hcF hs)
theorem zjc(hs:List (Int × Int)):(hcL hs).length=hs.length*2:=by simp[hcL]
theorem zpH{hs:List (Int × Int)}{j:Nat}{v:Value}(h:(hcL hs)[j]?=some v):j<hs.length*2∧v=hcF hs j:=by
 obtain⟨hl,hv⟩:=List.getElem?_eq_some_iff.1 h
 have hl2:=hl
 rw[zjc] at hl2
 refine⟨hl2,?_⟩
 rw[← hv]
 simp[hcL]
theorem zpt(hs:List (Int × Int)):∀ v ∈ hcL hs,v.oneCell' = true:=fun v hv=>by
 obtain⟨j,_,rfl⟩:=List.mem_map.1 hv
 rfl
theorem zmi{w:World}{a:Option Addr}{hs:List (Int × Int)}(h:zak w a hs):∀ ad,a=some ad→∀ j v,(hcL hs)[j]?=some v→w.cell? (ad.add j)=some v:=fun ad e j v hj=>by
 obtain⟨hl,rfl⟩:=zpH hj
 obtain⟨b,o,e2,h1,h2⟩:=h (j / 2) (by omega)
 rw[e] at e2
 cases e2
 rw[Addr.add_lit]
 by_cases hp:j % 2=0
 ·have:j=j / 2*2:=by omega
  rw[show o+j=o+j / 2*2 by omega,h1]
  unfold hcF
  rw[if_pos hp]
 ·rw[show o+j=o+j / 2*2+1 by omega,h2]
  unfold hcF
  rw[if_neg hp]
theorem zjj{w:World}{h:Nat}{hs:List (Int × Int)}(e:w.heap[h]?=some (.cells (hcL hs).toArray 60 (0,0))):w.rowIs h 60 (hs.length*2) (hcF hs):=by
 refine⟨_,e,?_,fun i hi=>?_⟩
 ·simp[zjc]
 ·simp[hcL,hi]
theorem znN{w:World}{a:Option Addr}{l:List Int}(h:zah w a l):∀ ad,a=some ad→∀ j v,(l.map (Value.int .i64))[j]?=some v→w.cell? (ad.add j)=some v:=fun ad e j v hj=>by
 obtain⟨hl,hv⟩:=List.getElem?_eq_some_iff.1 hj
 obtain⟨b,o,e2,h1⟩:=h j (by simpa using hl)
 rw[e] at e2
 cases e2
 rw[List.getElem_map] at hv
 rw[zad l 0 (by simpa using hl),hv] at h1
 rw[Addr.add_lit]
 exact h1
theorem zmU{w:World}{a:Option Addr}{l:List Int}(h:zah w a l):a=none→l.length=0:=fun e=>by
 subst e
 cases hl:l.length with
 | zero=>rfl
 | succ n=>obtain⟨b,o,e2,_⟩:=h 0 (by omega);cases e2
theorem zlh{w:World}{g t:Nat}{l:List Int}(e:w.heap[g]?=some (.cells (l.map (Value.int .i64)).toArray t (0,0))):zah w (some ⟨g,0,none⟩) l:=fun i hi=>by
 refine⟨g,0,rfl,?_⟩
 rw[Nat.zero_add]
 simp[World.cell?,e,hi]
theorem ci_of{w V2 V3 V4 X:World}{R:Rl}{t h g gg z:Nat}{kb kc:Nat→Nat}(c0 c1 c2 c3:Nat)(b2:Below w.heap.size w V2)(h0:w.heap.size≤h)(hr:V2.heap[h]?=some (.cells (hcL R.hs).toArray 60 (0,0)))(tt:V2.heap[t]?=some (.cells (R.t.map (Value.int .i64)).toArray 3 (0,0)))(th:t≠h)
  (b3:Below V2.heap.size V2 V3) (o3:Own V3 V2.heap.size g R.s kb kc R.s.length) (b4:Below V3.heap.size V3 V4) (c4:ClsSt (fun b=>b<V3.heap.size) V4 (some ⟨gg,0,none⟩) R.i) (zh:z≠h) (zt:z≠t) (zl:z<V2.heap.size) (hX:OffX (fun b=>b=z) V4 X) (bX:Below w.heap.size w X) :
  CI w R h g ⟨some ⟨g,0,none⟩,some ⟨h,0,none⟩,some ⟨gg,0,none⟩,some ⟨t,0,none⟩,c0,c1,c2,c3⟩ X:=by
 have hl:=zaz hr
 have tl:=zaz tt
 have s2:=b2.size
 have s3:=b3.size
 have s4:=b4.size
 have gl:g<V3.heap.size:=by obtain⟨_,F,hF,_⟩:=o3;exact hF.lt
 have g0:V2.heap.size≤g:=o3.1
 have oX:OwnR X g R.s:=((zoh o3).up (fun b _ h2=>b4.block b h2)).up (fun b h1 h2=>hX.block b h2 (by show ¬ b=z;omega))
 refine⟨bX,h0,by omega,by omega,rfl,rfl,zjj ?_,oX,oX.st (by omega),?_,fun X' ho=>zlh (t:=3) ?_⟩
 ·exact(hX.block h (by omega) (by show ¬ h=z;omega)).trans (keepB (keepB hr b3) b4)
 ·exact St.less (St.off (X:=fun b=>b<V3.heap.size) c4 (hX.mono (fun b hb=>by show b<V3.heap.size;have:b=z:=hb;omega))) (fun b hb=>by show b<V3.heap.size;have:b=h∨b=g:=hb;omega)
 ·have e:=(hX.block t (by omega) (by show ¬ t=z;omega)).trans (keepB (keepB tt b3) b4)
  exact(ho.block t (zaz e) (by show ¬ (t=h∨t=g);omega)).trans e
theorem zke(A:RA)(R:Rl)(w:World)(hR:zay R=0)(hW:RlAt w A R) :
  Calls Tryz.prog 16 #[rlV A R] w fun e w' => ∃ (B:RA) (h g:Nat),e=.returned (rlV B R)∧CI w R h g B w' := by
 obtain⟨a0,a1,a2,a3,c0,c1,c2,c3⟩:=A
 obtain⟨wf,hl,hgc,ht⟩:=zau hR
 have hgb:=zdG hgc
 obtain⟨w0,w1,w2,w3⟩:=hW
 have D0:Hid (∀ W,Below w.heap.size w W→_):=fun W hW=>YtojlkdekdbdpoaaGreat.copy_any a0 c0 R.s W wf.small (zbb wf) (w0.below hW)
 have D1:Hid (∀ W,Below w.heap.size w W→_):=fun W hW=>zkp a2 c2 R.i W (by omega) (zkx hgc) (w2.below hW)
 have SH:Hid (∀ W,Below w.heap.size w W→∀ ad,a1=some ad→∀ j v,(hcL R.hs)[j]?=some v→W.cell? (ad.add j)=some v):=fun W hW=>zmi (w1.below hW)
 have NH:Hid (a1=none→16=0):=fun e=>by
  obtain⟨b,o,e2,_⟩:=w1 0 (by omega)
  rw[e] at e2
  cases e2
 have LH:Hid ((hcL R.hs).length=16*2):=by show _=_;rw[zjc,hl]
 have OH:Hid _:=zpt R.hs
 have ST:Hid (∀ W,Below w.heap.size w W→∀ ad,a3=some ad→∀ j v,(R.t.map (Value.int .i64))[j]?=some v→W.cell? (ad.add j)=some v):=fun W hW=>znN (w3.below hW)
 have NT:Hid (a3=none→R.t.length=0):=zmU w3
 have LT:Hid ((R.t.map (Value.int .i64)).length=R.t.length*1):=by show _=_;simp
 have OT:Hid (∀ v ∈ R.t.map (Value.int .i64),v.oneCell' = true):=fun v hv=>by obtain⟨y,_,rfl⟩:=List.mem_map.1 hv;rfl
 have HL:Hid (R.hs.length=16):=hl
 dsimp only[rlV]
 rw[hl]
 obtain⟨nt,hnt⟩:∃ n,R.t.length=n:=⟨_,rfl⟩
 have HNT:Hid (R.t.length=nt):=hnt
 rw[hnt] at NT LT ht ⊢
 obtain⟨ns,hns⟩:∃ n,R.s.length=n:=⟨_,rfl⟩
 have HNS:Hid (R.s.length=ns):=hns
 rw[hns] at D0 ⊢
 obtain⟨ni,hni⟩:∃ n,R.i.length=n:=⟨_,rfl⟩
 have HNI:Hid (R.i.length=ni):=hni
 rw[hni] at D1 ⊢
 clear hns hni hnt hl hgc hgb wf w0 w1 w2 w3 hR
 have hmk:=zej
 have hmi:=zhx nt (by omega)
 obtain⟨i0,hi0,hz0,hz1,hz2⟩:=info_parts zet
 obtain⟨i1,hi1,hy0,hy1,hy2⟩:=info_parts infoK
 have HG:Hid (∀ o1 o2:Obj,(((w.alloc o1).alloc o2).alloc (.cells (madeCells #[.int .i64 0,.int .i64 0] 32) 60)).heap[w.heap.size+1+1]?=some (.cells (madeCells #[.int .i64 0,.int .i64 0] 32).toList.toArray 60 (0,0))):=fun o1 o2=>by
  have:=heap_alloc_new ((w.alloc o1).alloc o2) (.cells (madeCells #[.int .i64 0,.int .i64 0] 32) 60)
  simpa using this
 have HGT:Hid (∀ W:World,(W.alloc (.cells (madeCells #[.int .i64 0] nt) 3)).heap[W.heap.size]?=some (.cells (madeCells #[.int .i64 0] nt).toList.toArray 3 (0,0))):=fun W=>by
  have:=heap_alloc_new W (.cells (madeCells #[.int .i64 0] nt) 3)
  simpa using this
 obtain⟨hq,hhq⟩:∃ q,hcL R.hs=q:=⟨_,rfl⟩
 have HHQ:Hid (hcL R.hs=hq):=hhq
 rw[hhq] at SH LH OH
 clear hhq
 obtain⟨tq,htq⟩:∃ q,R.t.map (Value.int .i64)=q:=⟨_,rfl⟩
 have HTQ:Hid (R.t.map (Value.int .i64)=tq):=htq
 rw[htq] at ST LT OT
 clear htq
 go_enter Tryz.func16,Tryz.ntmps16
 go_wp2_with (refine zdq rfl (.tmp 9) (.tmp 11) 25 25 rfl 60 i0 2 Tryz.underlying25 hi0 hz1 (w.heap.size+1+1) 16 16 a1 c1 rfl rfl (madeCells #[.int .i64 0,.int .i64 0] 32).toList 60 (HG.out _ _) hq LH.out (by simp[size_madeCells]) NH.out (SH.out _ ((zaf _ _ _).alloc (by simp;omega) _)) OH.out ?_)
 intro V1 hw hb
 have B1:Hid (Below w.heap.size w V1):=hb.out _ _ ((zaf _ _ _).alloc (by simp;omega) _) (by omega)
 have B1' : Hid (Below (w.heap.size+1+1) ((w.alloc (.cells #[.slice a0 ns c0,.slice a1 16 c1,.slice a2 ni c2,.slice a3 nt c3] 31)).alloc (.cells #[.slice none 0 0,.slice none 0 0,.slice none 0 0,.slice none 0 0] 31)) V1):=hb.out _ _ ((Below.refl _ _).alloc (by simp) _) (by omega)
 have H1:Hid (V1.heap[w.heap.size+1+1]?=some (.cells hq.toArray 60 (0,0))):=hw.out
 have XR:Hid (V1.heap[w.heap.size]?=some (.cells #[.slice a0 ns c0,.slice a1 16 c1,.slice a2 ni c2,.slice a3 nt c3] 31 (0,0))):=(B1'.out.block _ (by omega)).trans (keepB (zbE _ _ _ _ _ _) (zab _ _))
 have XZ:Hid (V1.heap[w.heap.size+1]?=some (.cells #[.slice none 0 0,.slice none 0 0,.slice none 0 0,.slice none 0 0] 31 (0,0))):=(B1'.out.block _ (by omega)).trans (by have h:=zbE (w.alloc (.cells #[.slice a0 ns c0,.slice a1 16 c1,.slice a2 ni c2,.slice a3 nt c3] 31)) 31 (.slice none 0 0) (.slice none 0 0) (.slice none 0 0) (.slice none 0 0);simpa using h)
 obtain⟨l0,l1,l2,l3,lf,ll⟩:=zaa XR.out
 have s1:w.heap.size+1+1<V1.heap.size:=zaz H1.out
 clear hw hb HG SH LH OH NH B1' hmk hi0 hz0 hz1 hz2
 go_wp2_with (refine zdq rfl (.tmp 17) (.tmp 19) 29 29 rfl 3 i1 1 Tryz.underlying29 hi1 hy1 V1.heap.size nt nt a3 c3 rfl rfl (madeCells #[.int .i64 0] nt).toList 3 (HGT.out _) tq LT.out (by simp[size_madeCells]) NT.out (ST.out _ (B1.out.trans ((zab _ _).mono B1.out.size))) OT.out ?_)
 intro V2 hw hb
 have B2:Hid (Below V1.heap.size V1 V2):=hb.out _ _ (zab _ _) (Nat.le_refl _)
 have H2:Hid (V2.heap[V1.heap.size]?=some (.cells tq.toArray 3 (0,0))):=hw.out
 have s2:V1.heap.size<V2.heap.size:=zaz H2.out
 have XR2:Hid _:=keepB XR.out B2.out
 have XZ2:Hid _:=keepB XZ.out B2.out
 have H12:Hid _:=keepB H1.out B2.out
 have BW2:Hid (Below w.heap.size w V2):=B1.out.trans (B2.out.mono B1.out.size)
 clear hw hb HGT ST LT OT NT hmi hi1 hy0 hy1 hy2 l0 l1 l2 l3 lf ll XR XZ H1 B1
 obtain⟨l0,l1,l2,l3,lf,ll⟩:=zaa XR2.out
 obtain⟨z0,z1,z2,z3,zf,zl⟩:=zaa XZ2.out
 go_wp2_with fail
 go_region_held3 (fun w'' => w''.cell? ⟨w.heap.size,0,none⟩=some (.slice a0 ns c0)∧w''.cell? ⟨w.heap.size,2,none⟩=some (.slice a2 ni c2)) (go_keep) (first|(go_at_call 56;refine Calls.mono (D0.out _ BW2.out.drew) ?_;rintro e V3 ⟨g,kb,kc,rfl,hb3,ho3⟩;have B3:Hid (Below V2.heap.size V2 V3):=(Below.refl _ _).drew.trans hb3;have O3:Hid (Own V3 V2.heap.size g R.s kb kc ns):=ho3;have BW3:Hid (Below w.heap.size w V3):=BW2.out.trans (B3.out.mono BW2.out.size);have q0:=keepC l0 B3.out;have q2:=keepC l2 B3.out;have s3:V2.heap.size≤V3.heap.size:=B3.out.size;clear hb3 ho3)|(go_at_call 57;refine Calls.mono (D1.out _ BW3.out) ?_;rintro e V4 ⟨gg,rfl,hb4,hc4⟩;have B4:Hid (Below V3.heap.size V3 V4):=hb4;have C4:Hid (ClsSt (fun b=>b<V3.heap.size) V4 (some ⟨gg,0,none⟩) R.i):=hc4;have p0:=keepC q0 hb4;have p2:=keepC q2 hb4;clear hb4 hc4;have XZ4:Hid _:=keepB (keepB XZ2.out B3.out) B4.out;obtain⟨t0,t1,t2,t3,tf,tl⟩:=zaa XZ4.out))
 clear t0 t1 t2 t3 tf tl p0 p2 q0 q2 l0 l1 l2 l3 lf ll z0 z1 z2 z3 zf zl
 obtain⟨X,hX⟩:∃ X,(((V4.setCell ⟨w.heap.size+1,0,none⟩ (.slice (some ⟨g,0,none⟩) ns ns)).setCell ⟨w.heap.size+1,1,none⟩ (.slice (some ⟨w.heap.size+1+1,0,none⟩) 16 16)).setCell ⟨w.heap.size+1,2,none⟩ (.slice (some ⟨gg,0,none⟩) ni ni)).setCell ⟨w.heap.size+1,3,none⟩ (.slice (some ⟨V1.heap.size,0,none⟩) nt nt)=X:=⟨_,rfl⟩
 have x0:X.heap[w.heap.size+1]?=some (.cells #[.slice (some ⟨g,0,none⟩) ns ns,.slice (some ⟨w.heap.size+1+1,0,none⟩) 16 16,.slice (some ⟨gg,0,none⟩) ni ni,.slice (some ⟨V1.heap.size,0,none⟩) nt nt] 31 (0,0)):=by rw[← hX];exact zbc XZ4.out
 have xo:OffX (fun b=>b=w.heap.size+1) V4 X:=by
  rw[← hX]
  exact(((OffX.set (X:=fun b=>b=w.heap.size+1) _ _ rfl).trans (OffX.set (X:=fun b=>b=w.heap.size+1) _ _ rfl)).trans (OffX.set (X:=fun b=>b=w.heap.size+1) _ _ rfl)).trans (OffX.set (X:=fun b=>b=w.heap.size+1) _ _ rfl)
 have xb:Below w.heap.size w X:=by
  rw[← hX]
  exact((((BW3.out.trans (B4.out.mono BW3.out.size)).setCell (by simp) _).setCell (by simp) _).setCell (by simp) _).setCell (by simp) _
 rw[hX]
 clear hX
 rw[← HHQ.out] at H12
 rw[← HTQ.out] at H2
 rw[← HNS.out] at O3
 have s0:=BW2.out.size
 have CC:Hid _:=ci_of (z:=w.heap.size+1) ns 16 ni nt BW2.out (by omega) H12.out H2.out (by omega) B3.out O3.out B4.out C4.out (by omega) (by omega) (by omega) xo xb
 obtain⟨m0,m1,m2,m3,mf,ml⟩:=zaa x0
 clear xo xb x0 H12 H2 O3 B3 B4 C4 XZ4 XZ2 XR2 BW2 BW3 B2
 go_wp2
 refine bodyPost_ret (v:=.agg #[.slice (some ⟨g,0,none⟩) ns ns,.slice (some ⟨w.heap.size+1+1,0,none⟩) 16 16,.slice (some ⟨gg,0,none⟩) ni ni,.slice (some ⟨V1.heap.size,0,none⟩) nt nt]) (by simp[results,Tryz.results16,go_sem,m0,m1,m2,m3]) rfl ⟨_,_,_,?_,CC.out⟩
 dsimp only[rlV]
end Go.Proofs.YtojlkdekdbdpoaaGreat
