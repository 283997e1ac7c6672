/-
  slices.Clone over numbers; the law's closure; a slice of a slice.
-/
import Derived.Test.YtcohimljgjlkdabMa
import Derived.Test.YtcohimljgjlkdabZp
import Derived.WalkSpells
namespace Go.Proofs.Ytcohimljgjlkdab
open Go.RowKit

theorem sub_slice (nb no NL ncap i bl : Nat) (h1 : i + bl ≤ NL) (h2 : NL ≤ ncap) (h3 : 1 ≤ bl) (h4 : ncap ≤ 9223372036854775807) :
    ∀ W, (Instr.slice 32 (.slice (some ⟨nb, no, none⟩) NL ncap) (some (.int .i64 (i : Int))) (some (.int .i64 ((i : Int) + (bl : Int)))) none).run Try.prog W = .ok (.slice (some ⟨nb, no + i, none⟩) bl (ncap - i)) W := by
  intro W
  have e1 : ¬ ((ncap : Int) = (i : Int)) := by omega
  have e2 : (i : Int) ≤ (ncap : Int) := by omega
  have e3 : (i : Int) + (bl : Int) ≤ (ncap : Int) := by omega
  have e4 : (i : Int) ≤ (i : Int) + (bl : Int) := by omega
  have e5 : ¬ (i : Int) = (ncap : Int) := by omega
  go_simp
  omega

theorem ints_cells {w : World} {b o : Nat} {q : List Int} (h : IntsAt w (some ⟨b, o, none⟩) q) : ∀ j u, (q.map (Value.int .i64))[j]? = some u → w.cell? ((⟨b, o, none⟩ : Addr).add j) = some u := fun j u hj => by
  rw [List.getElem?_map] at hj
  by_cases hl : j < q.length
  · rw [List.getElem?_eq_getElem hl] at hj
    have hu : u = .int .i64 q[j] := by simpa using hj.symm
    obtain ⟨b', o', e, hc⟩ := h j hl
    cases e
    rw [Addr.add_lit, hc, getD_elem q 0 hl, hu]
  · rw [List.getElem?_eq_none (by omega)] at hj
    cases hj

theorem ints_one {q : List Int} : ∀ u ∈ q.map (Value.int .i64), u.oneCell' = true := fun u hu => by
  obtain ⟨x, _, rfl⟩ := List.mem_map.1 hu
  rfl

set_option maxRecDepth 100000 in
set_option maxHeartbeats 4000000 in
theorem cloneInts_any (b o qc : Nat) (q : List Int) (w : World) (hq : 1 ≤ q.length ∧ q.length ≤ 1000) (hQ : IntsAt w (some ⟨b, o, none⟩) q) :
    Calls Try.prog 16 #[.slice (some ⟨b, o, none⟩) q.length qc] w fun e w' => ∃ g cap, e = .returned (.slice (some ⟨g, 0, none⟩) q.length cap) ∧ Below w.heap.size w w' ∧ w'.ownsRow w.heap.size 3 1 (.slice (some ⟨g, 0, none⟩) q.length cap) q.length (q.map (Value.int .i64)) := by
  obtain ⟨i0, hi0, hz0, hz1, hz2⟩ := info_parts info3
  have hnil := fun (W : World) n c n' c' => Lib.run_eql_slice_nil (P := Try.prog) W 32 3 (some ⟨b, o, none⟩) n c n' c' Try.underlying32
  have NEW : Hid (∀ o1, ∀ j u, (q.map (Value.int .i64))[j]? = some u → (w.alloc o1).cell? ((⟨b, o, none⟩ : Addr).add j) = some u) := fun o1 => ints_cells (hQ.below ((Below.refl _ _).alloc (Nat.le_refl _) o1))
  have ONE : Hid (∀ u ∈ q.map (Value.int .i64), u.oneCell' = true) := ints_one
  have LEN : Hid ((q.map (Value.int .i64)).length = q.length * 1) := (by simp : (q.map (Value.int .i64)).length = q.length * 1)
  clear hQ
  generalize q.map (Value.int .i64) = cs at *
  generalize q.length = L at *
  go_enter Try.func16, Try.ntmps16
  go_wp2_with (at_builtin; refine wpList_append_own _ rfl _ _ 32 rfl w.heap.size 3 i0 (.int .i64 0) 1 8 Try.underlying32 hi0 hz0 hz1 hz2 rfl (by decide) (.slice (some ⟨w.heap.size, 0, none⟩) 0 0) 0 [] rfl ?c0 ⟨b, o, none⟩ L qc cs rfl LEN.out (NEW.out _) ONE.out ?c3 ?c4 ?c5 ?_)
  case c0 => exact ⟨by simp, Or.inr ⟨w.heap.size, 0, #[], rfl, Nat.le_refl _, heap_alloc_new w _, by omega, by unfold maxLen; omega, by simp, by simp⟩⟩
  case c3 => unfold maxLen; omega
  case c4 => omega
  case c5 => first | omega | simp
  intro v' w' hown hgrow _
  obtain ⟨g', cap', rfl⟩ : ∃ g' cap', v' = .slice (some ⟨g', 0, none⟩) L cap' := by
    rcases hown.2 with ⟨_, h⟩ | ⟨g', cap', cur, h, _⟩
    · omega
    · exact ⟨g', cap', h⟩
  have HO : Hid (w'.ownsRow w.heap.size 3 1 (.slice (some ⟨g', 0, none⟩) L cap') L cs) := hown
  have HB : Hid (Below w.heap.size w w') := ((Below.refl _ _).alloc (Nat.le_refl _) _).grown hgrow (by simp) (fun k hk => by simp [Value.ownBlock] at hk; omega)
  clear hown hgrow
  go_wp2
  go_ret
  exact ⟨g', cap', rfl, HB.out, HO.out⟩

theorem mvOut_any (bb : Nat) (la : Option Addr) (lc : Nat) (l : List Int) (x : Int) (w : World) (hl : l.length ≤ 1000) (cb : w.cell? ⟨bb, 0, none⟩ = some (.slice la l.length lc)) (hI : IntsAt w la l) :
    Calls Try.prog 12 #[.int .i64 x, .pointer (some ⟨bb, 0, none⟩)] w fun e w' => e = .returned (.bool (decide (x ∈ l))) ∧ Below w.heap.size w w' := by
  have D : Hid _ := contains_any la lc l x w (by omega) hI
  have hbl := World.block_lt_of_cell? _ _ cb
  clear hI
  generalize decide (x ∈ l) = r at *
  generalize l.length = L at *
  go_enter Try.func12, Try.ntmps12
  go_wp2_with fail
  refine Calls.mono D.out ?_
  rintro e w' ⟨rfl, rfl⟩
  go_wp2
  go_ret
  exact ⟨rfl, Below.refl _ _⟩

/-- A copy without what stands in another list. -/
theorem del_any (w0 : World) (bb : Nat) (la : Option Addr) (lc : Nat) (l : List Int) (hl : l.length ≤ 1000) (cb : w0.cell? ⟨bb, 0, none⟩ = some (.slice la l.length lc)) (hI : IntsAt w0 la l)
    (g cap : Nat) (ks : List Int) (w : World) (hb : Below w0.heap.size w0 w) (B : Nat) (hB : w0.heap.size ≤ B) (hown : w.ownsRow B 3 1 (.slice (some ⟨g, 0, none⟩) ks.length cap) ks.length (ks.map (Value.int .i64))) :
    Calls Try.prog 15 #[.slice (some ⟨g, 0, none⟩) ks.length cap, .func (.func 12) #[] #[.pointer (some ⟨bb, 0, none⟩)]] w fun e w' => e = .returned (.slice (some ⟨g, 0, none⟩) (flt (fun y => decide (y ∈ l)) ks).length cap) ∧ Off (fun b => b = g) w w' ∧ IntsAt w' (some ⟨g, 0, none⟩) (flt (fun y => decide (y ∈ l)) ks) := by
  obtain ⟨h1, h2, h3, _, G, hG, hGk⟩ := row_of_own hown
  refine (deleteFunc_in 12 #[.pointer (some ⟨bb, 0, none⟩)] (fun y => decide (y ∈ l)) g ks.length cap ks G w rfl h2 (by unfold maxLen at h3; omega) hG hGk (enters_of Try.func12 (by kernel_rfl) rfl) (fun x _ w1 ho => ?_)).mono ?_
  · have hb1 : Below w0.heap.size w0 w1 := hb.trans (ho.below hb.size (fun k hk => by omega))
    exact mvOut_any bb la lc l x w1 hl ((hb1.cell (World.block_lt_of_cell? _ _ cb)).trans cb) (hI.below hb1)
  · rintro e w' ⟨rfl, ho, G', hG', hGk'⟩
    exact ⟨rfl, ho, ints_of_row hG' (Nat.le_trans (flt_le _ _) h2) hGk'⟩
end Go.Proofs.Ytcohimljgjlkdab
