/-
  What stays so, whatever becomes of some blocks.
-/
import Derived.Test.YtgjfmepbphfjoaaUBa
import Derived.Test.YtgjfmepbphfjoaaUCb
namespace Go.Proofs.Ytgjfmepbphfjoaa
open Go.RowKit
set_option linter.unusedVariables false

/-- All that lay in w lies in w' as it lay, but for X. -/
structure OffX (X : Nat → Prop) (w w' : World) : Prop where
  size : w.heap.size ≤ w'.heap.size
  block : ∀ b, b < w.heap.size → ¬ X b → w'.heap[b]? = w.heap[b]?
theorem OffX.refl (X : Nat → Prop) (w : World) : OffX X w w := ⟨Nat.le_refl _, fun _ _ _ => rfl⟩
theorem OffX.of_below {X : Nat → Prop} {w w' : World} (h : Below w.heap.size w w') : OffX X w w' := ⟨h.size, fun b hb _ => h.block b hb⟩
theorem OffX.trans {X : Nat → Prop} {w w' w'' : World} (h : OffX X w w') (k : OffX X w' w'') : OffX X w w'' := ⟨Nat.le_trans h.size k.size, fun b hb hx => (k.block b (Nat.lt_of_lt_of_le hb h.size) hx).trans (h.block b hb hx)⟩
theorem OffX.set {X : Nat → Prop} (w : World) {b o : Nat} (v : Value) (h : X b) : OffX X w (w.setCell ⟨b, o, none⟩ v) := ⟨by simp, fun k _ hk => Below.heap_setCell _ _ _ _ (fun e => hk (by rw [e]; exact h))⟩
theorem OffX.grown {X : Nat → Prop} {w w' : World} {r : Option Nat} (h : w.grownBy w' r) (hx : ∀ b, r = some b → X b) : OffX X w w' := ⟨h.size, fun k hk hn => h.block k hk (fun e => hn (hx k e.symm))⟩
/-- X may grow by what was not there. -/
theorem off_grow {X Y : Nat → Prop} {w w1 w' : World} (hs : w.heap.size ≤ w1.heap.size) (hb : ∀ b, b < w.heap.size → ¬ X b → w1.heap[b]? = w.heap[b]?) (hY : ∀ b, b < w.heap.size → Y b → X b) (h : OffX Y w1 w') : OffX X w w' := ⟨Nat.le_trans hs h.size, fun b h1 h2 => (h.block b (Nat.lt_of_lt_of_le h1 hs) (fun hy => h2 (hY b h1 hy))).trans (hb b h1 h2)⟩
theorem OffX.mono {X Y : Nat → Prop} {w w' : World} (h : OffX X w w') (hXY : ∀ b, X b → Y b) : OffX Y w w' := ⟨h.size, fun b hb hy => h.block b hb (fun hx => hy (hXY b hx))⟩
/-- What stays so, whatever becomes of X. -/
def St (X : Nat → Prop) (P : World → Prop) (w : World) : Prop := ∀ w', OffX X w w' → P w'
theorem St.off {X : Nat → Prop} {P : World → Prop} {w w' : World} (h : St X P w) (ho : OffX X w w') : St X P w' := fun w'' h2 => h w'' (ho.trans h2)
theorem St.at {X : Nat → Prop} {P : World → Prop} {w : World} (h : St X P w) : P w := h w (OffX.refl X w)
theorem St.less {X Y : Nat → Prop} {P : World → Prop} {w : World} (h : St Y P w) (hXY : ∀ b, X b → Y b) : St X P w := fun w' ho => h w' (ho.mono hXY)
theorem St.grow {X Y : Nat → Prop} {P : World → Prop} {w w1 : World} (h : St X P w) (ho : OffX X w w1) (hY : ∀ b, b < w.heap.size → Y b → X b) : St Y P w1 := fun w' h2 => h w' (off_grow ho.size ho.block hY h2)
theorem St.imp {X : Nat → Prop} {P Q : World → Prop} {w : World} (h : St X P w) (hPQ : ∀ V, P V → Q V) : St X Q w := fun w' ho => hPQ w' (h w' ho)
theorem St.and {X : Nat → Prop} {P Q : World → Prop} {w : World} (h : St X P w) (k : St X Q w) : St X (fun V => P V ∧ Q V) w := fun w' ho => ⟨h w' ho, k w' ho⟩
end Go.Proofs.Ytgjfmepbphfjoaa

namespace Go.Proofs.Ytgjfmepbphfjoaa
open Go.RowKit Go.ChangeShapes Go.WideShapes
set_option linter.unusedVariables false

def ClsSt (X : Nat → Prop) (w : World) (a : Option Addr) (G : List Cl) : Prop := ∀ w', OffX X w w' → ClsAt w' a G
theorem ClsSt.at {X : Nat → Prop} {w : World} {a : Option Addr} {G : List Cl} (h : ClsSt X w a G) : ClsAt w a G := h w (OffX.refl X w)
theorem ClsSt.off {X : Nat → Prop} {w w' : World} {a : Option Addr} {G : List Cl} (h : ClsSt X w a G) (ho : OffX X w w') : ClsSt X w' a G := fun w'' h2 => h w'' (ho.trans h2)
theorem ClsSt.grow {X Y : Nat → Prop} {w w1 : World} {a : Option Addr} {G : List Cl} (h : ClsSt X w a G) (ho : OffX X w w1) (hY : ∀ b, b < w.heap.size → Y b → X b) : ClsSt Y w1 a G := fun w' h2 => h w' (off_grow ho.size ho.block hY h2)
/-- What lies below a size, of which X has none. -/
theorem cls_stB {X : Nat → Prop} {w w1 : World} {a : Option Addr} {G : List Cl} (h : ClsAt w a G) (ho : OffX X w w1) (hX : ∀ b, X b → w.heap.size ≤ b) : ClsSt X w1 a G := fun w' h2 => by
  have h3 := ho.trans h2
  have h4 : ClsAt { w' with os := w.os, tape := w.tape, output := w.output } a G := h.below ⟨rfl, rfl, rfl, h3.size, fun b hb => h3.block b hb (fun hx => by have := hX b hx; omega)⟩
  exact h4

end Go.Proofs.Ytgjfmepbphfjoaa

namespace Go.Proofs.Ytgjfmepbphfjoaa
open Go.RowKit

theorem infoK : (Try.prog.info? 3).map (fun i => (i.zero, i.size, i.bytes)) = some (some (.int .i64 0), 1, 8) := by kernel_rfl
theorem makeIntsK (n : Nat) (hn : n ≤ 1000000) (w : World) : (Instr.makeSlice 40 (.int .i64 (n : Int)) (.int .i64 (n : Int))).run Try.prog w = .ok (.slice (some ⟨w.heap.size, 0, none⟩) n n) (w.alloc (.cells (madeCells #[.int .i64 0] n) 3)) :=
  run_make_row' (P := Try.prog) 40 3 (.int .i64 0) 8 Try.underlying40 infoK rfl .i64 .i64 n (by omega) (by omega) w
theorem ints_row {w : World} {g t : Nat} {ks : List Int} (h : w.rowIs g t ks.length (fun j => .int .i64 (ks.getD j 0))) : IntsAt w (some ⟨g, 0, none⟩) ks := fun i hi => ⟨g, 0, rfl, by rw [Nat.zero_add]; exact h.cell hi⟩

set_option maxHeartbeats 1000000 in
theorem copyKids_any (ka : Option Addr) (kc : Nat) (ks : List Int) (w : World) (hk : ks.length ≤ 1000000) (hks : IntsAt w ka ks) :
    Calls Try.prog 64 #[.slice ka ks.length kc] w fun e w' => e = .returned (.slice (some ⟨w.heap.size, 0, none⟩) ks.length ks.length) ∧ Below w.heap.size w w' ∧ w'.rowIs w.heap.size 3 ks.length (fun j => .int .i64 (ks.getD j 0)) := by
  have hmk := makeIntsK ks.length hk
  have hsz : (Try.prog.info? 3).map (·.size) = some 1 := by kernel_rfl
  have HKS : Hid (∀ o1, IntsAt (w.alloc o1) ka ks) := fun o1 => hks.below (one_belowS _ _)
  have HG : Hid ((w.alloc (.cells (madeCells #[.int .i64 0] ks.length) 3)).heap[w.heap.size]? = some (.cells (madeCells #[.int .i64 0] ks.length).toList.toArray 3 (0, 0))) := by
    have := heap_alloc_new w (.cells (madeCells #[.int .i64 0] ks.length) 3)
    show _ = _
    simpa using this
  have HP : Hid (∀ o1, 0 < (ks.map (Value.int .i64)).length → some (⟨w.heap.size, 0, none⟩ : Addr) = some ⟨w.heap.size, 0, none⟩ ∧ ∃ ad, ka = some ad ∧ ∀ j v, (ks.map (Value.int .i64))[j]? = some v → (w.alloc o1).cell? (ad.add j) = some v) := fun o1 h0 => by
    refine ⟨rfl, ?_⟩
    obtain ⟨b, o, rfl, _⟩ := HKS.out o1 0 (by simpa using h0)
    refine ⟨_, rfl, fun j v hj => ?_⟩
    obtain ⟨hl, hv⟩ := List.getElem?_eq_some_iff.1 hj
    obtain ⟨b', o', e', hc⟩ := HKS.out o1 j (by simpa using hl)
    cases e'
    rw [List.getElem_map] at hv
    rw [getD_elem ks 0 (by simpa using hl), hv] at hc
    rw [Addr.add_lit]; exact hc
  have HSP : Hid (splice (madeCells #[.int .i64 0] ks.length).toList 0 (ks.map (Value.int .i64)) = ks.map (Value.int .i64)) := by
    show splice _ _ _ = _
    simp [splice, size_madeCells]
  clear hks
  go_enter Try.func64, Try.ntmps64
  go_wp2_with (refine wpList_copy_splice rfl (.tmp 7) (.tmp 8) 40 40 rfl 3 Try.underlying40 hsz (some ⟨w.heap.size, 0, none⟩) ka ks.length ks.length ks.length kc rfl rfl w.heap.size 0 (madeCells #[.int .i64 0] ks.length).toList 3 HG.out (ks.map (Value.int .i64)) (by simp) (HP.out _) (by simp [size_madeCells]) (by intro v hv; simp at hv; obtain ⟨y, _, rfl⟩ := hv; rfl) w.heap.size _ (Below.refl _ _) (Nat.le_refl _) ?_)
  intro w3 hw3 hb3
  have HW3 : Hid (w3.rowIs w.heap.size 3 ks.length (fun j => .int .i64 (ks.getD j 0))) := by
    refine ⟨_, hw3.out, ?_, fun i hi => ?_⟩
    · rw [HSP.out]; simp
    · rw [HSP.out]
      simp [hi]
  have HB3 : Hid (Below w.heap.size w w3) := (one_belowS _ _).trans hb3
  clear hb3 hw3
  go_wp2
  go_ret
  exact ⟨rfl, HB3.out, HW3.out⟩
end Go.Proofs.Ytgjfmepbphfjoaa
