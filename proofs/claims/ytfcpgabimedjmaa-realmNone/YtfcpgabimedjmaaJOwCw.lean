/-
  What stays so, whatever becomes of some blocks; graphs.
-/
import Derived.Test.YtfcpgabimedjmaaJCb
import Derived.Test.YtfcpgabimedjmaaJSfSgBa
import Derived.Test.YtfcpgabimedjmaaJSmBkTa
import Derived.Deep.RegionHeld3
namespace Go.Proofs.Ytfcpgabimedjmaa
open Go.RowKit Go.ChangeShapes Go.WideShapes
set_option linter.unusedVariables false

/-- All that lay in w lies in w' as it lay, but for X. -/
structure OffX (X : Nat → Prop) (w w' : World) : Prop where
  size : w.heap.size ≤ w'.heap.size
  block : ∀ b, b < w.heap.size → ¬ X b → w'.heap[b]? = w.heap[b]?
theorem OffX.refl (X : Nat → Prop) (w : World) : OffX X w w := ⟨Nat.le_refl _, fun _ _ _ => rfl⟩
theorem OffX.of_below {X : Nat → Prop} {w w' : World} (h : Below w.heap.size w w') : OffX X w w' := ⟨h.size, fun b hb _ => h.block b hb⟩
theorem OffX.trans {X : Nat → Prop} {w w' w'' : World} (h : OffX X w w') (k : OffX X w' w'') : OffX X w w'' := ⟨Nat.le_trans h.size k.size, fun b hb hx => (k.block b (Nat.lt_of_lt_of_le hb h.size) hx).trans (h.block b hb hx)⟩
theorem OffX.set {X : Nat → Prop} (w : World) {b o : Nat} (v : Value) (h : X b) : OffX X w (w.setCell ⟨b, o, none⟩ v) := ⟨by simp, fun k _ hk => Below.heap_setCell _ _ _ _ (fun e => hk (by rw [e]; exact h))⟩
theorem OffX.grown {X : Nat → Prop} {w w' : World} {r : Option Nat} (h : w.grownBy w' r) (hx : ∀ b, r = some b → X b) : OffX X w w' := ⟨h.size, fun k hk hn => h.block k hk (fun e => hn (hx k e.symm))⟩
def ClsSt (X : Nat → Prop) (w : World) (a : Option Addr) (G : List Cl) : Prop := ∀ w', OffX X w w' → ClsAt w' a G
theorem ClsSt.at {X : Nat → Prop} {w : World} {a : Option Addr} {G : List Cl} (h : ClsSt X w a G) : ClsAt w a G := h w (OffX.refl X w)
theorem ClsSt.off {X : Nat → Prop} {w w' : World} {a : Option Addr} {G : List Cl} (h : ClsSt X w a G) (ho : OffX X w w') : ClsSt X w' a G := fun w'' h2 => h w'' (ho.trans h2)
/-- X may grow by what was not there. -/
theorem off_grow {X Y : Nat → Prop} {w w1 w' : World} (hs : w.heap.size ≤ w1.heap.size) (hb : ∀ b, b < w.heap.size → ¬ X b → w1.heap[b]? = w.heap[b]?) (hY : ∀ b, b < w.heap.size → Y b → X b) (h : OffX Y w1 w') : OffX X w w' := ⟨Nat.le_trans hs h.size, fun b h1 h2 => (h.block b (Nat.lt_of_lt_of_le h1 hs) (fun hy => h2 (hY b h1 hy))).trans (hb b h1 h2)⟩
theorem ClsSt.grow {X Y : Nat → Prop} {w w1 : World} {a : Option Addr} {G : List Cl} (h : ClsSt X w a G) (ho : OffX X w w1) (hY : ∀ b, b < w.heap.size → Y b → X b) : ClsSt Y w1 a G := fun w' h2 => h w' (off_grow ho.size ho.block hY h2)
/-- What lies below a size, of which X has none. -/
theorem cls_stB {X : Nat → Prop} {w w1 : World} {a : Option Addr} {G : List Cl} (h : ClsAt w a G) (ho : OffX X w w1) (hX : ∀ b, X b → w.heap.size ≤ b) : ClsSt X w1 a G := fun w' h2 => by
  have h3 := ho.trans h2
  have h4 : ClsAt { w' with os := w.os, tape := w.tape, output := w.output } a G := h.below ⟨rfl, rfl, rfl, h3.size, fun b hb => h3.block b hb (fun hx => by have := hX b hx; omega)⟩
  exact h4

theorem OffX.mono {X Y : Nat → Prop} {w w' : World} (h : OffX X w w') (hXY : ∀ b, X b → Y b) : OffX Y w w' := ⟨h.size, fun b hb hy => h.block b hb (fun hx => hy (hXY b hx))⟩
/-- What stays so, whatever becomes of X. -/
def St (X : Nat → Prop) (P : World → Prop) (w : World) : Prop := ∀ w', OffX X w w' → P w'
theorem St.off {X : Nat → Prop} {P : World → Prop} {w w' : World} (h : St X P w) (ho : OffX X w w') : St X P w' := fun w'' h2 => h w'' (ho.trans h2)
theorem St.at {X : Nat → Prop} {P : World → Prop} {w : World} (h : St X P w) : P w := h w (OffX.refl X w)
theorem St.less {X Y : Nat → Prop} {P : World → Prop} {w : World} (h : St Y P w) (hXY : ∀ b, X b → Y b) : St X P w := fun w' ho => h w' (ho.mono hXY)
end Go.Proofs.Ytfcpgabimedjmaa

namespace Go.Proofs.Ytfcpgabimedjmaa
open Go.RowKit Go.ChangeShapes Go.WideShapes
set_option linter.unusedVariables false

theorem info_cell : (Try.prog.info? 45).map (fun i => (i.zero, i.size, i.bytes)) = some (some (.agg #[.int .i64 0, .slice none 0 0]), 2, 32) := by kernel_rfl
theorem makeCls (n : Nat) (hn : n ≤ 1000) (w : World) : (Instr.makeSlice 26 (.int .i64 (n : Int)) (.int .i64 (n : Int))).run Try.prog w = .ok (.slice (some ⟨w.heap.size, 0, none⟩) n n) (w.alloc (.cells (madeCells #[.int .i64 0, .slice none 0 0] (n * 2)) 45)) := by
  obtain ⟨i, hi, hz0, hz1, hz2⟩ := info_parts info_cell
  have h := run_make (P := Try.prog) w 26 45 i _ Try.underlying26 hi hz0 .i64 .i64 n n (by omega) (by omega) (by rw [hz2]; omega) (by omega)
  rw [hz1] at h
  simp only [Int.toNat_natCast] at h
  exact h
theorem row_madeCls (w : World) (n : Nat) : (w.alloc (.cells (madeCells #[.int .i64 0, .slice none 0 0] (n * 2)) 45)).rowIs w.heap.size 45 (n * 2) (fun j => (#[.int .i64 0, .slice none 0 0] : Array Value)[j % 2]!) := by
  have h := World.rowIs_alloc w (madeCells #[.int .i64 0, .slice none 0 0] (n * 2)) 45 (fun j => (#[.int .i64 0, .slice none 0 0] : Array Value)[j % 2]!) (fun i hi => by rw [size_madeCells] at hi; simp [madeCells, hi])
  rw [size_madeCells] at h
  exact h

/-- Cells in a row of the call's own, the first k of them there. -/
def CgI (B g : Nat) (G : List Cl) (k : Nat) (w : World) : Prop := B ≤ g ∧ ∃ F, w.rowIs g 45 (G.length * 2) F ∧ ∀ i, i < k → F (i * 2) = .int .i64 (cl G i).n ∧ ∃ ka kc, F (i * 2 + 1) = .slice ka (cl G i).ks.length kc ∧ St (fun b => b ≤ g) (fun w => IntsAt w ka (cl G i).ks) w
theorem CgI.step {B g k : Nat} {G : List Cl} {wr w3 : World} (h : CgI B g G k wr) (hk : k < G.length) (hb : Below wr.heap.size wr w3) {kg : Nat} (hkg : wr.heap.size ≤ kg) (hrow : w3.rowIs kg 3 (cl G k).ks.length (fun j => .int .i64 ((cl G k).ks.getD j 0))) :
    CgI B g G (k + 1) ((w3.setCell ⟨g, k * 2, none⟩ (.int .i64 (cl G k).n)).setCell ⟨g, k * 2 + 1, none⟩ (.slice (some ⟨kg, 0, none⟩) (cl G k).ks.length (cl G k).ks.length)) := by
  obtain ⟨hB, F, hF, hN⟩ := h
  have hg := hF.lt
  have hF3 := hF.of_block (hb.block g hg)
  have o3 : OffX (fun b => b ≤ g) w3 ((w3.setCell ⟨g, k * 2, none⟩ (.int .i64 (cl G k).n)).setCell ⟨g, k * 2 + 1, none⟩ (.slice (some ⟨kg, 0, none⟩) (cl G k).ks.length (cl G k).ks.length)) := (OffX.set (X := fun b => b ≤ g) w3 _ (Nat.le_refl g)).trans (OffX.set (X := fun b => b ≤ g) _ _ (Nat.le_refl g))
  have o4 : OffX (fun b => b ≤ g) wr w3 := OffX.of_below hb
  refine ⟨hB, _, (hF3.set (k * 2) _).set (k * 2 + 1) _, fun i hi => ?_⟩
  by_cases e : i = k
  · subst e
    refine ⟨by simp, some ⟨kg, 0, none⟩, (cl G i).ks.length, by simp, fun w' ho => ints_row (hrow.of_block ?_)⟩
    have hl := hrow.lt
    exact ((o3.trans ho).block kg hl (by show ¬ kg ≤ g; omega))
  · obtain ⟨h1, ka, kc, h2, h3⟩ := hN i (by omega)
    refine ⟨?_, ka, kc, ?_, h3.off (o4.trans o3)⟩
    · rw [if_neg (by omega), if_neg (by omega)]; exact h1
    · rw [if_neg (by omega), if_neg (by omega)]; exact h2
theorem CgI.cls {B g : Nat} {G : List Cl} {w : World} (h : CgI B g G G.length w) : St (fun b => b < B) (fun w => ClsAt w (some ⟨g, 0, none⟩) G) w := fun w' ho i hi => by
  obtain ⟨hB, F, hF, hN⟩ := h
  have hF' := hF.of_block (ho.block g hF.lt (by show ¬ g < B; omega))
  obtain ⟨h1, ka, kc, h2, h3⟩ := hN i hi
  refine ⟨g, 0, rfl, ?_⟩
  rw [Nat.zero_add]
  exact ⟨by rw [hF'.cell (by omega), h1], ka, kc, by rw [hF'.cell (by omega), h2], h3 w' (ho.mono (fun b hb => by show b ≤ g; have : b < B := hb; omega))⟩
theorem CgI.off {B g k : Nat} {G : List Cl} {w w' : World} (h : CgI B g G k w) (ho : OffX (fun b => b < g) w w') : CgI B g G k w' := by
  obtain ⟨hB, F, hF, hN⟩ := h
  refine ⟨hB, F, hF.of_block (ho.block g hF.lt (by show ¬ g < g; omega)), fun i hi => ?_⟩
  obtain ⟨h1, ka, kc, h2, h3⟩ := hN i hi
  exact ⟨h1, ka, kc, h2, h3.off (ho.mono (fun b hb => by show b ≤ g; have : b < g := hb; omega))⟩

set_option maxRecDepth 100000 in
set_option maxHeartbeats 2000000 in
theorem cgraph_any (a : Option Addr) (c : Nat) (G : List Cl) (w : World) (hN : G.length ≤ 1000) (hK : ∀ i, i < G.length → (cl G i).ks.length ≤ 1000) (hG : ClsAt w a G) :
    Calls Try.prog 40 #[.agg #[.slice a G.length c]] w fun e w' => ∃ g, e = .returned (.agg #[.slice (some ⟨g, 0, none⟩) G.length G.length]) ∧ Below w.heap.size w w' ∧ ClsSt (fun b => b < w.heap.size) w' (some ⟨g, 0, none⟩) G := by
  have HG : Hid (ClsAt w a G) := hG
  have HK : Hid _ := hK
  have ST : Hid (∀ (wr w3 : World) (k kg : Nat), CgI w.heap.size (w.heap.size + 1 + 1) G k wr → k < G.length → Below wr.heap.size wr w3 → wr.heap.size ≤ kg → w3.rowIs kg 3 (cl G k).ks.length (fun j => .int .i64 ((cl G k).ks.getD j 0)) → _) := fun wr w3 k kg h1 h2 h3 h4 h5 => CgI.step h1 h2 h3 h4 h5
  have FN : Hid (∀ wr : World, CgI w.heap.size (w.heap.size + 1 + 1) G G.length wr → _) := fun wr h => CgI.cls h
  have ZR : Hid (∀ W : World, W.heap.size = w.heap.size + 1 + 1 → CgI w.heap.size (w.heap.size + 1 + 1) G 0 (W.alloc (.cells (madeCells #[.int .i64 0, .slice none 0 0] (G.length * 2)) 45))) := fun W hW => by
    have h := row_madeCls W G.length
    rw [hW] at h
    exact ⟨by omega, _, h, fun i hi => absurd hi (Nat.not_lt_zero _)⟩
  have OC : Hid (∀ (wr : World) (k : Nat), CgI w.heap.size (w.heap.size + 1 + 1) G k wr → k < G.length → (w.heap.size + 1 + 1 < wr.heap.size ∧ (∀ o, wr.frozen? ⟨w.heap.size + 1 + 1, o, none⟩ = false) ∧ ∃ x y, wr.cell? ⟨w.heap.size + 1 + 1, k * 2, none⟩ = some x ∧ wr.cell? ⟨w.heap.size + 1 + 1, k * 2 + 1, none⟩ = some y)) := fun wr k h hk => by
    obtain ⟨_, F, hF, _⟩ := h
    exact ⟨hF.lt, hF.frozen, _, _, hF.cell (by omega), hF.cell (by omega)⟩
  clear hG hK
  obtain ⟨n, hn⟩ : ∃ n, G.length = n := ⟨_, rfl⟩
  have HN : Hid (G.length = n) := hn
  rw [hn] at hN HK ST FN ZR OC ⊢
  clear hn
  have hmk := makeCls n hN
  go_enter Try.func40, Try.ntmps40
  go_wp2
  go_loopg [13] n (fun g s13 wr => ∃ k : Nat, k ≤ n ∧ n - k ≤ g ∧ s13 = .int .i64 k ∧ Below (w.heap.size + 1 + 1) ((w.alloc (Obj.cells #[Value.slice a n c] 28)).alloc (Obj.cells #[Value.slice none 0 0] 28)) wr ∧ Hid (CgI w.heap.size (w.heap.size + 1 + 1) G k wr))
  case atStart => exact ⟨0, by omega, by omega, rfl, (Below.refl _ _).alloc (by simp) _, ZR.out _ (by simp)⟩
  case round =>
    obtain ⟨k, hk, hg, rfl, hb, O⟩ := hrel
    have hB0 : Below w.heap.size w wr := (two_belowS _ _ _).trans (hb.mono (by omega))
    by_cases hlt : k < n
    · have hlt2 : (k : Int) < (n : Int) := by omega
      obtain ⟨b, o, rfl, hnd⟩ := HG.out k (by rw [HN.out]; exact hlt)
      obtain ⟨c0, ka, kc, c1, hks⟩ := hnd.below hB0
      have hbw := World.block_lt_of_cell? _ _ c0
      obtain ⟨hgl, hfz, x, y, r0, r1⟩ := OC.out _ _ O.out hlt
      have d1 := fun W (hW : Below wr.heap.size wr W) => copyKids_any ka kc (cl G k).ks W (Nat.le_trans (HK.out k hlt) (by omega)) (hks.below hW)
      have D1 : Hid _ := d1
      have ST2 : Hid (∀ (w3 : World) (kg : Nat), Below wr.heap.size wr w3 → wr.heap.size ≤ kg → w3.rowIs kg 3 (cl G k).ks.length (fun j => .int .i64 ((cl G k).ks.getD j 0)) → _) := fun w3 kg h3 h4 h5 => ST.out wr w3 k kg O.out hlt h3 h4 h5
      clear hks hnd d1
      generalize cl G k = z at *
      obtain ⟨zn, zks⟩ := z
      dsimp only at c0 c1 D1 ST2
      obtain ⟨l, hl⟩ : ∃ l, zks.length = l := ⟨_, rfl⟩
      rw [hl] at c1 D1 ST2
      clear hl
      have hszr : w.heap.size + 1 + 1 < wr.heap.size := hgl
      go_wp2_with fail
      obtain ⟨V, hV⟩ : ∃ V, wr.alloc (.cells #[.int .i64 zn, .slice ka l kc] 45) = V := ⟨_, rfl⟩
      have v0 : V.cell? ⟨wr.heap.size, 0, none⟩ = some (.int .i64 zn) := by rw [← hV]; exact alloc_cell _ _ _ 0 rfl
      have v1 : V.cell? ⟨wr.heap.size, 1, none⟩ = some (.slice ka l kc) := by rw [← hV]; exact alloc_cell _ _ _ 1 rfl
      have BV : Hid (Below wr.heap.size wr V) := by rw [← hV]; exact one_belowS _ _
      have sV : wr.heap.size < V.heap.size := World.block_lt_of_cell? _ _ v0
      have g0 := keepC r0 BV.out
      have g1 := keepC r1 BV.out
      have sg : w.heap.size + 1 + 1 < V.heap.size := World.block_lt_of_cell? _ _ g0
      have ne1 : ¬ w.heap.size + 1 + 1 = wr.heap.size := by omega
      have ne2 : ¬ wr.heap.size = w.heap.size + 1 + 1 := by omega
      rw [hV]
      clear hV
      go_region_held3 (fun w'' => w''.cell? ⟨wr.heap.size, 0, none⟩ = some (.int .i64 zn) ∧ w''.cell? ⟨wr.heap.size, 1, none⟩ = some (.slice ka l kc)) (go_keep) (first | (go_at_call 42; refine Calls.mono (D1.out _ ?nd) ?_; (case nd => exact BV.out.drew); rintro e w3 ⟨rfl, hb3, hrow⟩; have HV3 : Hid (Below V.heap.size V w3) := (Below.refl V.heap.size V).drew.trans hb3; have HB3 : Hid (Below wr.heap.size wr w3) := BV.out.trans (HV3.out.mono BV.out.size); have HR : Hid (w3.rowIs V.heap.size 3 l (fun j => .int .i64 (zks.getD j 0))) := hrow; have u0 := keepC v0 HV3.out; have u1 := keepC v1 HV3.out; have q0 := keepC g0 HV3.out; have q1 := keepC g1 HV3.out; have fz := fun o => (HB3.out.frozen (show (⟨w.heap.size + 1 + 1, o, none⟩ : Addr).block < wr.heap.size from hgl)).trans (hfz o); have s3 : V.heap.size < w3.heap.size := World.rowIs.lt hrow; clear hb3 hrow))
      have N3 : Hid _ := ST2.out w3 V.heap.size HB3.out BV.out.size HR.out
      clear u0 u1 q0 q1 fz
      obtain ⟨X, hX⟩ : ∃ X, (w3.setCell ⟨w.heap.size + 1 + 1, k * 2, none⟩ (.int .i64 zn)).setCell ⟨w.heap.size + 1 + 1, k * 2 + 1, none⟩ (.slice (some ⟨V.heap.size, 0, none⟩) l l) = X := ⟨_, rfl⟩
      have BX : Hid (Below (w.heap.size + 1 + 1) ((w.alloc (Obj.cells #[Value.slice (some ⟨b, o, none⟩) n c] 28)).alloc (Obj.cells #[Value.slice none 0 0] 28)) X) := by
        rw [← hX]
        exact ((hb.trans (HB3.out.mono (by have := hb.size; simp at this; omega))).setCell (by simp) _).setCell (by simp) _
      rw [hX] at N3 ⊢
      clear hX
      go_wp2_with fail
      go_roundg (n - (k + 1))
      case measure => omega
      case rel => exact ⟨k + 1, by omega, by omega, by go_num, BX.out, N3⟩
    · have : k = n := by omega
      subst this
      have y1 : wr.cell? ⟨w.heap.size + 1, 0, none⟩ = some (.slice none 0 0) := (hb.cell (by simp)).trans (by go_simp)
      have y2 : ∀ o, wr.frozen? ⟨w.heap.size + 1, o, none⟩ = false := fun o => (hb.frozen (by simp)).trans (by go_simp)
      have FN2 : Hid (ClsSt (fun b => b < w.heap.size) (wr.setCell ⟨w.heap.size + 1, 0, none⟩ (.slice (some ⟨w.heap.size + 1 + 1, 0, none⟩) k k)) (some ⟨w.heap.size + 1 + 1, 0, none⟩) G) := FN.out _ (O.out.off (OffX.set _ _ (by show w.heap.size + 1 < w.heap.size + 1 + 1; omega)))
      go_wp2
      refine bodyPost_ret (v := .agg #[.slice (some ⟨w.heap.size + 1 + 1, 0, none⟩) k k]) (by simp [results, Try.results40, go_sem, y1]) rfl ⟨w.heap.size + 1 + 1, rfl, hB0.setCell (by simp) _, FN2.out⟩
end Go.Proofs.Ytfcpgabimedjmaa
