/-
  Ports in new memory: copyGraphs, copyPorts.
-/
import Derived.Test.YtmojfomjncmikaaJPwa
import Derived.Test.YtmojfomjncmikaaJMw
namespace Go.Proofs.Ytmojfomjncmikaa
open Go.RowKit Go.ChangeShapes Go.WideShapes
set_option linter.unusedVariables false

theorem makeGrs (n : Nat) (hn : n ≤ 1000) (w : World) : (Instr.makeSlice 42 (.int .i64 (n : Int)) (.int .i64 (n : Int))).run Try.prog w = .ok (.slice (some ⟨w.heap.size, 0, none⟩) n n) (w.alloc (.cells (madeCells #[.slice none 0 0] n) 25)) := by
  obtain ⟨i, hi, hz0, hz1, hz2⟩ := info_parts infoGraph
  have h := run_make (P := Try.prog) w 42 25 i _ Try.underlying42 hi hz0 .i64 .i64 n n (by omega) (by omega) (by rw [hz2]; omega) (by omega)
  rw [hz1] at h
  simp only [Int.toNat_natCast, Nat.mul_one] at h
  exact h
/-- Graphs in a row of the call's own, the first k of them there. -/
def GsI (g : Nat) (C : List (List Cl)) (k : Nat) (w : World) : Prop := ∃ F, w.rowIs g 25 C.length F ∧ ∀ i, i < k → ∃ ga gc, F i = .slice ga (gr C i).length gc ∧ St (fun b => b ≤ g) (fun w => ClsAt w ga (gr C i)) w
theorem GsI.step {g k : Nat} {C : List (List Cl)} {wr w3 : World} (h : GsI g C k wr) (hk : k < C.length) (hb : Below wr.heap.size wr w3) {ga : Option Addr} {gc : Nat} (hc : St (fun b => b < wr.heap.size) (fun w => ClsAt w ga (gr C k)) w3) : GsI g C (k + 1) (w3.setCell ⟨g, k, none⟩ (.slice ga (gr C k).length gc)) := by
  obtain ⟨F, hF, hN⟩ := h
  have hg := hF.lt
  have hF3 := hF.of_block (hb.block g hg)
  have o3 : OffX (fun b => b ≤ g) w3 (w3.setCell ⟨g, k, none⟩ (.slice ga (gr C k).length gc)) := OffX.set (X := fun b => b ≤ g) w3 _ (Nat.le_refl g)
  have o4 : OffX (fun b => b ≤ g) wr w3 := OffX.of_below hb
  refine ⟨_, hF3.set k _, fun i hi => ?_⟩
  by_cases e : i = k
  · subst e
    exact ⟨ga, gc, by simp, (hc.less (fun b hb => by show b < wr.heap.size; have : b ≤ g := hb; omega)).off o3⟩
  · obtain ⟨ka, kc, h2, h3⟩ := hN i (by omega)
    exact ⟨ka, kc, by rw [if_neg e]; exact h2, h3.off (o4.trans o3)⟩

set_option maxRecDepth 100000 in
set_option maxHeartbeats 2000000 in
theorem cgraphs_any (a : Option Addr) (c : Nat) (C : List (List Cl)) (w : World) (hN : C.length ≤ 1000) (hK : ∀ i, i < C.length → (gr C i).length ≤ 1000 ∧ ∀ j, j < (gr C i).length → (cl (gr C i) j).ks.length ≤ 1000) (hG : GrsAt w a C) :
    Calls Try.prog 44 #[.slice a C.length c] w fun e w' => e = .returned (.slice (some ⟨w.heap.size, 0, none⟩) C.length C.length) ∧ Below w.heap.size w w' ∧ GsI w.heap.size C C.length w' := by
  have HG : Hid (GrsAt w a C) := hG
  have HK : Hid _ := hK
  have ST : Hid (∀ (wr w3 : World) (k : Nat) (ga : Option Addr) (gc : Nat), GsI w.heap.size C k wr → k < C.length → Below wr.heap.size wr w3 → St (fun b => b < wr.heap.size) (fun w => ClsAt w ga (gr C k)) w3 → GsI w.heap.size C (k + 1) (w3.setCell ⟨w.heap.size, k, none⟩ (.slice ga (gr C k).length gc))) := fun wr w3 k ga gc h1 h2 h3 h4 => GsI.step h1 h2 h3 h4
  have ZR : Hid (GsI w.heap.size C 0 (w.alloc (.cells (madeCells #[.slice none 0 0] C.length) 25))) := ⟨_, World.rowIs_made w (.slice none 0 0) C.length 25, fun i hi => absurd hi (Nat.not_lt_zero _)⟩
  have OC : Hid (∀ (wr : World) (k : Nat), GsI w.heap.size C k wr → k < C.length → (w.heap.size < wr.heap.size ∧ (∀ o, wr.frozen? ⟨w.heap.size, o, none⟩ = false) ∧ ∃ x, wr.cell? ⟨w.heap.size, k, none⟩ = some x)) := fun wr k h hk => by
    obtain ⟨F, hF, _⟩ := h
    exact ⟨hF.lt, hF.frozen, _, hF.cell (by omega)⟩
  clear hG hK
  obtain ⟨n, hn⟩ : ∃ n, C.length = n := ⟨_, rfl⟩
  have HN : Hid (C.length = n) := hn
  rw [hn] at hN HK ST ZR OC ⊢
  clear hn
  have hmk := makeGrs n hN
  go_enter Try.func44, Try.ntmps44
  go_wp2
  go_loopg [11] n (fun g s11 wr => ∃ k : Nat, k ≤ n ∧ n - k ≤ g ∧ s11 = .int .i64 k ∧ Hid (Below w.heap.size w wr) ∧ Hid (GsI w.heap.size C k wr))
  case atStart => exact ⟨0, by omega, by omega, rfl, one_belowS _ _, ZR⟩
  case round =>
    obtain ⟨k, hk, hg, rfl, HB, O⟩ := hrel
    by_cases hlt : k < n
    · have hlt2 : (k : Int) < (n : Int) := by omega
      obtain ⟨b, o, ga, gc, rfl, c0, hcl⟩ := (HG.out.below HB.out) k (by rw [HN.out]; exact hlt)
      have hbw : b < wr.heap.size := World.block_lt_of_cell? _ _ c0
      obtain ⟨hgl, hfz, x, r0⟩ := OC.out _ _ O.out hlt
      have d1 := fun W (hW : Below wr.heap.size wr W) => cgraph_any ga gc (gr C k) W (HK.out k hlt).1 (HK.out k hlt).2 (hcl.below hW)
      have D1 : Hid _ := d1
      have ST2 : Hid (∀ (w3 : World) (ga : Option Addr) (gc : Nat), Below wr.heap.size wr w3 → St (fun b => b < wr.heap.size) (fun w => ClsAt w ga (gr C k)) w3 → _) := fun w3 ga gc h3 h4 => ST.out wr w3 k ga gc O.out hlt h3 h4
      clear hcl d1
      generalize gr C k = G at *
      obtain ⟨l, hl⟩ : ∃ l, G.length = l := ⟨_, rfl⟩
      rw [hl] at c0 D1 ST2
      clear hl
      go_wp2_with fail
      obtain ⟨V, hV⟩ : ∃ V, wr.alloc (.cells #[.slice ga l gc] 25) = V := ⟨_, rfl⟩
      have v0 : V.cell? ⟨wr.heap.size, 0, none⟩ = some (.slice ga l gc) := by rw [← hV]; exact alloc_cell _ _ _ 0 rfl
      have BV : Hid (Below wr.heap.size wr V) := by rw [← hV]; exact one_belowS _ _
      have sV : wr.heap.size < V.heap.size := World.block_lt_of_cell? _ _ v0
      rw [hV]
      clear hV
      refine Calls.mono (D1.out _ BV.out) ?_
      rintro e w3 ⟨g, rfl, hb3, hst⟩
      have HB3 : Hid (Below wr.heap.size wr w3) := BV.out.trans (hb3.mono BV.out.size)
      have N3 : Hid _ := ST2.out w3 (some ⟨g, 0, none⟩) l HB3.out (St.less hst (fun b (hb : b < wr.heap.size) => (by show b < V.heap.size; omega)))
      have q0 := keepC r0 HB3.out
      have s3 : w.heap.size < w3.heap.size := World.block_lt_of_cell? _ _ q0
      have fz : w3.frozen? ⟨w.heap.size, k, none⟩ = false := (HB3.out.frozen (show (⟨w.heap.size, k, none⟩ : Addr).block < wr.heap.size from hgl)).trans (hfz k)
      have BX : Hid (Below w.heap.size w (w3.setCell ⟨w.heap.size, k, none⟩ (.slice (some ⟨g, 0, none⟩) l l))) := (HB.out.trans (HB3.out.mono HB.out.size)).setCell (by simp) _
      clear hb3 hst D1 ST2 v0
      go_wp2_with fail
      go_roundg (n - (k + 1))
      case measure => omega
      case rel => exact ⟨k + 1, by omega, by omega, by go_num, BX.out, N3⟩
    · have : k = n := by omega
      subst this
      go_wp2
      go_ret
      exact ⟨rfl, HB.out, O.out⟩

/-- What came, in new memory: within lo and hi, in a row of its own. -/
def GrsO (lo hi : Nat) (w : World) (v : Value) (C : List (List Cl)) : Prop := ∃ b J, lo ≤ b ∧ b < hi ∧ v = .slice (some ⟨b, 0, none⟩) C.length C.length ∧ w.rowIs b 25 C.length J ∧ ∀ i, i < C.length → ∃ ga gc, J i = .slice ga (gr C i).length gc ∧ St (fun x => x ≤ b ∨ hi ≤ x) (fun w => ClsAt w ga (gr C i)) w
theorem GrsO.off {lo hi : Nat} {w w' : World} {v : Value} {C : List (List Cl)} {Y : Nat → Prop} (h : GrsO lo hi w v C) (ho : OffX Y w w') (hY : ∀ b, Y b → b < lo ∨ hi ≤ b) : GrsO lo hi w' v C := by
  obtain ⟨b, J, h1, h2, h3, h4, h5⟩ := h
  refine ⟨b, J, h1, h2, h3, h4.of_block (ho.block b h4.lt (fun hy => by have := hY b hy; omega)), fun i hi => ?_⟩
  obtain ⟨ga, gc, e, hs⟩ := h5 i hi
  exact ⟨ga, gc, e, hs.off (ho.mono (fun x hx => by have := hY x hx; show x ≤ b ∨ _ ≤ x; omega))⟩
theorem GrsO.grs {lo hi : Nat} {w : World} {v : Value} {C : List (List Cl)} (h : GrsO lo hi w v C) (hC : C.length ≤ 1000) : GrsV w v C := by
  obtain ⟨b, J, h1, h2, h3, h4, h5⟩ := h
  refine ⟨some ⟨b, 0, none⟩, C.length, h3, ⟨(fun e => by cases e), Nat.le_refl _, by omega⟩, fun i hi => ?_⟩
  obtain ⟨ga, gc, e, hs⟩ := h5 i hi
  exact ⟨b, 0, ga, gc, rfl, by rw [Nat.zero_add, h4.cell hi, e], hs.at⟩
theorem GrsO.made {g : Nat} {C : List (List Cl)} {w : World} (h : GsI g C C.length w) : GrsO g w.heap.size w (.slice (some ⟨g, 0, none⟩) C.length C.length) C := by
  obtain ⟨F, hF, hN⟩ := h
  refine ⟨g, F, Nat.le_refl _, hF.lt, rfl, hF, fun i hi => ?_⟩
  obtain ⟨ga, gc, e, hs⟩ := hN i hi
  exact ⟨ga, gc, e, fun w' ho => hs w' ⟨ho.size, fun b hb hx => ho.block b hb (fun h => by have h2 : b ≤ g ∨ w.heap.size ≤ b := h; have h3 : ¬ b ≤ g := hx; omega)⟩⟩

theorem run_copy_noneW {P : Program} (w : World) (dT sT ty elem : TypeId) (i : TypeInfo) (d a : Option Addr) (dLen dCap sLen sCap : Nat) (hu : P.underlying dT = some (.slice elem)) (hq : P.info? elem = some i) (hn : Nat.min sLen dLen = 0) :
    (Builtin.copy_ #[dT, sT] ty #[.slice d dLen dCap, .slice a sLen sCap]).run P w = .ok (goInt 0) w := by
  have hl : ∀ (x : Addr), (loadCells x 0).run P w = .ok #[] w := fun x => by simpa using run_loadCells_list (P := P) w x [] (by simp)
  cases d <;> cases a <;> simp [Builtin.copy_, run_underlying hu, Builtin.lenOf, Builtin.firstCells, sizeOf, typeInfo, hq, hn, storeCells, hl]
/-- copy of all of a slice, nil too, into a row of the same length. -/
theorem wpList_copy_rows {P : Program} {w : World} {ops : Array Oper} {rest : List Oper} {o : Oper} {a : Act} {Q : Exit → Act → World → Prop} (hgd : o.guard = none) (d s : Operand) (dT sT : TypeId)
    (ho : o.op = .call { callee := .builtin .copy, args := #[d, s], argTypes := #[dT, sT] }) (elem : TypeId) (i : TypeInfo) (size : Nat) (hu : P.underlying dT = some (.slice elem)) (hi : P.info? elem = some i) (hz : i.size = size)
    (g n dCap : Nat) (sa : Option Addr) (sCap : Nat) (hd : a.eval d = .slice (some ⟨g, 0, none⟩) n dCap) (hs : a.eval s = .slice sa n sCap)
    (cur : List Value) (t : TypeId) (hg : w.heap[g]? = some (.cells cur.toArray t (0, 0))) (cs : List Value) (hl : cs.length = n * size) (hcur : cur.length = n * size) (hnil : sa = none → n = 0)
    (hsrc : ∀ ad, sa = some ad → ∀ j v, cs[j]? = some v → w.cell? (ad.add j) = some v) (h1 : ∀ v ∈ cs, v.oneCell' = true)
    (h : ∀ w', Hid (w'.heap[g]? = some (.cells cs.toArray t (0, 0))) → Hid (∀ B w0, Below B w0 w → B ≤ g → Below B w0 w') → wpList P ops Q rest (a.put o.dst (goInt n)) w') : wpList P ops Q (o :: rest) a w := by
  subst hz
  by_cases h0 : n = 0
  · subst h0
    rw [Nat.zero_mul] at hl hcur
    obtain rfl : cs = [] := List.eq_nil_of_length_eq_zero hl
    obtain rfl : cur = [] := List.eq_nil_of_length_eq_zero hcur
    refine wpList_plain hgd fun K hK => ?_
    have hrun := run_copy_noneW (P := P) w dT sT o.type elem i (some ⟨g, 0, none⟩) sa 0 dCap 0 sCap hu hi rfl
    unfold Oper.wp
    simp [execOp, ho, resolve, invoke, builtin, hd, hs, hrun, Result.andThen]
    exact hK _ _ (h w hg (fun _ _ hb _ => hb))
  · cases sa with
    | none => exact absurd (hnil rfl) h0
    | some ad =>
      refine wpList_copy_wide hgd d s dT sT ho elem i hu hi g 0 n dCap ad n sCap n hd hs cur t hg cs (Nat.min_self n).symm hl (hsrc ad rfl) (by omega) h1 (fun w' hw hb => h w' ?_ hb)
      show _ = _
      rw [hw]
      simp [hl, hcur]

def zeroPs : Array Value := #[.int .i64 0, .int .i64 0, .int .i64 0, .slice none 0 0, .bool false]
theorem makePts (n : Nat) (hn : n ≤ 1000) (w : World) : (Instr.makeSlice 22 (.int .i64 (n : Int)) (.int .i64 (n : Int))).run Try.prog w = .ok (.slice (some ⟨w.heap.size, 0, none⟩) n n) (w.alloc (.cells (madeCells zeroPs (n * 5)) 44)) := by
  obtain ⟨i, hi, hz0, hz1, hz2⟩ := info_parts infoPort
  have h := run_make (P := Try.prog) w 22 44 i _ Try.underlying22 hi hz0 .i64 .i64 n n (by omega) (by omega) (by rw [hz2]; omega) (by omega)
  rw [hz1] at h
  simp only [Int.toNat_natCast] at h
  exact h

/-- Ports in new memory, what came to the first k of them too. -/
structure CpI (B : Nat) (L : List Pt) (K : Nat → Value) (lo hi : Nat → Nat) (k : Nat) (w : World) : Prop where
  row : w.ownsRow B 44 5 (.slice (some ⟨B, 0, none⟩) L.length L.length) L.length (pcells L K)
  gs : ∀ i, i < k → GrsO (lo i) (hi i) w (K i) (pt L i).cm
  at' : ∀ i, i < k → B < lo i ∧ hi i ≤ w.heap.size
  ap : ∀ i j, i < k → j < k → i ≠ j → hi i ≤ lo j ∨ hi j ≤ lo i
theorem CpI.step {B k g : Nat} {L : List Pt} {K : Nat → Value} {lo hi : Nat → Nat} {wr w3 : World} (h : CpI B L K lo hi k wr) (hk : k < L.length) (hb : Below wr.heap.size wr w3) (hg : wr.heap.size ≤ g) (hc : GsI g (pt L k).cm (pt L k).cm.length w3) :
    CpI B L (fun i => if i = k then .slice (some ⟨g, 0, none⟩) (pt L k).cm.length (pt L k).cm.length else K i) (fun i => if i = k then g else lo i) (fun i => if i = k then w3.heap.size else hi i) (k + 1) (w3.setCell ⟨B, k * 5 + 3, none⟩ (.slice (some ⟨g, 0, none⟩) (pt L k).cm.length (pt L k).cm.length)) := by
  have hBl : B < wr.heap.size := (h.row.lt B rfl).2
  have r3 : w3.ownsRow B 44 5 (.slice (some ⟨B, 0, none⟩) L.length L.length) L.length (pcells L K) := owns_block h.row (fun j hj => hb.block j (h.row.lt j hj).2)
  have o1 : OffX (fun x => x = B) wr w3 := OffX.of_below hb
  have o2 : OffX (fun x => x = B) w3 (w3.setCell ⟨B, k * 5 + 3, none⟩ (.slice (some ⟨g, 0, none⟩) (pt L k).cm.length (pt L k).cm.length)) := OffX.set (X := fun x => x = B) w3 _ rfl
  have hgl : g < w3.heap.size := by obtain ⟨F, hF, _⟩ := hc; exact hF.lt
  refine ⟨?_, fun i hi' => ?_, fun i hi' => ?_, fun i j hi' hj' hne => ?_⟩
  · have := row_put r3 (k := k) (f := 3) (u := .slice (some ⟨g, 0, none⟩) (pt L k).cm.length (pt L k).cm.length) (v := .slice (some ⟨g, 0, none⟩) (pt L k).cm.length (pt L k).cm.length) (x := pt L k) hk (by omega) rfl
    rwa [show L.set k (pt L k) = L from by rw [pt_elem hk]; exact List.set_getElem_self hk] at this
  · by_cases e : i = k
    · subst e
      simp only [if_true]
      exact (GrsO.made hc).off o2 (fun b hb' => Or.inl (by have : b = B := hb'; omega))
    · simp only [if_neg e]
      exact (h.gs i (by omega)).off (o1.trans o2) (fun b hb' => Or.inl (by have : b = B := hb'; have := (h.at' i (by omega)).1; omega))
  · by_cases e : i = k
    · simp only [if_pos e]
      exact ⟨by omega, by simp⟩
    · simp only [if_neg e]
      have := h.at' i (by omega)
      have := hb.size
      refine ⟨by omega, ?_⟩
      simp
      omega
  · by_cases e : i = k
    · have ej : j ≠ k := fun e2 => hne (e.trans e2.symm)
      simp only [if_pos e, if_neg ej]
      have := (h.at' j (by omega)).2
      omega
    · by_cases ej : j = k
      · simp only [if_pos ej, if_neg e]
        have := (h.at' i (by omega)).2
        omega
      · simp only [if_neg ej, if_neg e]
        exact h.ap i j (by omega) (by omega) hne
def FewP (L : List Pt) : Prop := ∀ i, i < L.length → (pt L i).cm.length ≤ 1000 ∧ ∀ j, j < (pt L i).cm.length → (gr (pt L i).cm j).length ≤ 1000 ∧ ∀ m, m < (gr (pt L i).cm j).length → (cl (gr (pt L i).cm j) m).ks.length ≤ 1000

set_option maxRecDepth 100000 in
set_option maxHeartbeats 4000000 in
theorem cports_any (a : Option Addr) (c : Nat) (L : List Pt) (w : World) (hN : L.length ≤ 12) (hF : FewP L) (hL : PtsAt w a L) :
    Calls Try.prog 21 #[.slice a L.length c] w fun e w' => ∃ K lo hi, e = .returned (.slice (some ⟨w.heap.size, 0, none⟩) L.length L.length) ∧ Below w.heap.size w w' ∧ CpI w.heap.size L K lo hi L.length w' := by
  obtain ⟨i0, hi0, hz0, hz1, hz2⟩ := info_parts infoPort
  have HL : Hid (PtsAt w a L) := hL
  have HF : Hid (FewP L) := hF
  have ST : Hid (∀ (wr w3 : World) (k g : Nat) (K : Nat → Value) (lo hi : Nat → Nat), CpI w.heap.size L K lo hi k wr → k < L.length → Below wr.heap.size wr w3 → wr.heap.size ≤ g → GsI g (pt L k).cm (pt L k).cm.length w3 → _) := fun wr w3 k g K lo hi h1 h2 h3 h4 h5 => CpI.step h1 h2 h3 h4 h5
  have OC : Hid (∀ (wr : World) (k : Nat) (K : Nat → Value) (lo hi : Nat → Nat), CpI w.heap.size L K lo hi k wr → k < L.length → (w.heap.size < wr.heap.size ∧ (∀ o, wr.frozen? ⟨w.heap.size, o, none⟩ = false) ∧ ∃ x, wr.cell? ⟨w.heap.size, k * 5 + 3, none⟩ = some x)) := fun wr k K lo hi h hk => by
    exact ⟨(h.row.lt _ rfl).2, fun o => h.row.frozenAt o, K k, (row_cells h.row rfl hk (show 3 < 5 by omega)).trans rfl⟩
  have SRC : Hid (∀ o1 : Obj, ∀ ad, a = some ad → ∀ j u, (pcells L (kOf w a))[j]? = some u → (w.alloc o1).cell? (ad.add j) = some u) := fun o1 ad e j u hj => by
    subst e
    have hne : 0 < L.length := by
      by_cases h0 : L.length = 0
      · rw [List.getElem?_eq_none (by rw [pcells_len]; omega)] at hj; cases hj
      · omega
    obtain ⟨b, oo, ea, _⟩ := hL 0 hne
    cases ea
    have h1 := k_src hL j u hj
    exact ((one_belowS w o1).cell (World.block_lt_of_cell? _ _ h1)).trans h1
  have NIL : Hid (a = none → L.length = 0) := fun e => by
    by_cases h0 : L.length = 0
    · exact h0
    · obtain ⟨b, oo, ea, _⟩ := hL 0 (by omega)
      rw [e] at ea
      cases ea
  have LEN : Hid ((pcells L (kOf w a)).length = L.length * 5) := pcells_len _ _
  have ONE : Hid (∀ u ∈ pcells L (kOf w a), u.oneCell' = true) := pcells_one (k_grs hL)
  have HG : Hid ((w.alloc (.cells (madeCells zeroPs (L.length * 5)) 44)).heap[w.heap.size]? = some (.cells (madeCells zeroPs (L.length * 5)).toList.toArray 44 (0, 0))) := by
    have := heap_alloc_new w (.cells (madeCells zeroPs (L.length * 5)) 44)
    show _ = _
    simpa using this
  have ZR : Hid (∀ w3 : World, w3.heap[w.heap.size]? = some (.cells (pcells L (kOf w a)).toArray 44 (0, 0)) → CpI w.heap.size L (kOf w a) (fun _ => 0) (fun _ => 0) 0 w3) := fun w3 h3 => ⟨⟨pcells_len _ _, Or.inr ⟨w.heap.size, L.length, _, rfl, Nat.le_refl _, h3, Nat.le_refl _, by unfold maxLen; omega, by simp [pcells_len], List.take_of_length_le (by rw [pcells_len]; exact Nat.le_refl _)⟩⟩, fun i hi => absurd hi (Nat.not_lt_zero _), fun i hi => absurd hi (Nat.not_lt_zero _), fun i j hi => absurd hi (Nat.not_lt_zero _)⟩
  clear hL hF
  generalize pcells L (kOf w a) = cs at *
  generalize kOf w a = K0 at *
  obtain ⟨n, hn⟩ : ∃ n, L.length = n := ⟨_, rfl⟩
  have HN : Hid (L.length = n) := hn
  rw [hn] at hN ST OC NIL LEN HG ⊢
  clear hn
  have hmk := makePts n (by omega)
  go_enter Try.func21, Try.ntmps21
  go_wp2_with (refine wpList_copy_rows rfl (.tmp 9) (.tmp 10) 22 22 rfl 44 i0 5 Try.underlying22 hi0 hz1 w.heap.size n n a c rfl rfl (madeCells zeroPs (n * 5)).toList 44 HG.out cs LEN.out (by simp [size_madeCells]) NIL.out (SRC.out _) ONE.out ?_)
  intro w3 hw3 hb3
  have HB3 : Hid (Below w.heap.size w w3) := hb3.out _ _ (one_belowS _ _) (Nat.le_refl _)
  have Z3 : Hid _ := ZR.out w3 hw3.out
  clear hw3 hb3 ZR HG SRC
  go_wp2_with fail
  go_loopg [14] n (fun g s14 wr => ∃ (k : Nat) (K : Nat → Value) (lo hi : Nat → Nat), k ≤ n ∧ n - k ≤ g ∧ s14 = .int .i64 k ∧ Hid (Below w.heap.size w wr) ∧ Hid (CpI w.heap.size L K lo hi k wr))
  case atStart => exact ⟨0, K0, fun _ => 0, fun _ => 0, by omega, by omega, rfl, HB3, Z3⟩
  case round =>
    obtain ⟨k, K, lo, hi, hk, hg, rfl, HB, O⟩ := hrel
    clear HB3 Z3
    by_cases hlt : k < n
    · have hlt2 : (k : Int) < (n : Int) := by omega
      obtain ⟨b, o, ea, c0, c1, c2, ca, cc, c3, ⟨hsl, hgr⟩, c4⟩ := (HL.out.below HB.out) k (by rw [HN.out]; exact hlt)
      subst ea
      have hbw : b < wr.heap.size := World.block_lt_of_cell? _ _ c0
      obtain ⟨hgl, hfz, x, r0⟩ := OC.out _ _ _ _ _ O.out hlt
      have hfw := HF.out k (by rw [HN.out]; exact hlt)
      have d1 := fun W (hW : Below wr.heap.size wr W) => cgraphs_any ca cc (pt L k).cm W hfw.1 hfw.2 (hgr.below hW)
      have D1 : Hid _ := d1
      have ST2 : Hid (∀ (w3 : World) (g : Nat), Below wr.heap.size wr w3 → wr.heap.size ≤ g → GsI g (pt L k).cm (pt L k).cm.length w3 → _) := fun w3 g h3 h4 h5 => ST.out wr w3 k g K lo hi O.out hlt h3 h4 h5
      clear hgr d1 hfw hsl
      generalize pt L k = z at *
      obtain ⟨zo, zt, zm, zc, zs⟩ := z
      dsimp only at c0 c1 c2 c3 c4 D1 ST2
      obtain ⟨l, hl⟩ : ∃ l, zc.length = l := ⟨_, rfl⟩
      rw [hl] at c3 D1 ST2
      clear hl
      go_wp2_with fail
      obtain ⟨V, hV⟩ : ∃ V, wr.alloc (.cells #[.int .i64 zo, .int .i64 zt, .int .i64 zm, .slice ca l cc, .bool zs] 44) = V := ⟨_, rfl⟩
      have BV : Hid (Below wr.heap.size wr V) := by rw [← hV]; exact one_belowS _ _
      rw [hV]
      clear hV
      refine Calls.mono (D1.out _ BV.out) ?_
      rintro e w3 ⟨rfl, hb3, hst⟩
      have HB3 : Hid (Below wr.heap.size wr w3) := BV.out.trans (hb3.mono BV.out.size)
      have N3 : Hid _ := ST2.out w3 V.heap.size HB3.out BV.out.size hst
      have q0 := keepC r0 HB3.out
      have s3 : w.heap.size < w3.heap.size := World.block_lt_of_cell? _ _ q0
      have fz : w3.frozen? ⟨w.heap.size, k * 5 + 3, none⟩ = false := (HB3.out.frozen (show (⟨w.heap.size, k * 5 + 3, none⟩ : Addr).block < wr.heap.size from hgl)).trans (hfz _)
      have BX : Hid (Below w.heap.size w (w3.setCell ⟨w.heap.size, k * 5 + 3, none⟩ (.slice (some ⟨V.heap.size, 0, none⟩) l l))) := (HB.out.trans (HB3.out.mono HB.out.size)).setCell (by simp) _
      clear hb3 hst D1 ST2
      go_wp2_with fail
      go_roundg (n - (k + 1))
      case measure => omega
      case rel => exact ⟨k + 1, _, _, _, by omega, by omega, by go_num, BX.out, N3⟩
    · have : k = n := by omega
      subst this
      go_wp2
      go_ret
      exact ⟨K, lo, hi, rfl, HB.out, O.out⟩
end Go.Proofs.Ytmojfomjncmikaa
