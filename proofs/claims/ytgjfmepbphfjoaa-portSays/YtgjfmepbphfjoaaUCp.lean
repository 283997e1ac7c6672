/-
  The contract of slices.Index at []int.
-/
import Derived.Test.YtgjfmepbphfjoaaUSa
namespace Go.Proofs.Ytgjfmepbphfjoaa
open Go.RowKit

/-- Where v stands first, or -1. -/
def idxC (ks : List Int) (v : Int) : Int := if v ∈ ks then (ks.idxOf v : Int) else -1

theorem idx_noneC {ks : List Int} {v : Int} (h : ∀ i, i < ks.length → ks.getD i 0 ≠ v) : idxC ks v = -1 ∧ v ∉ ks := by
  have hn : v ∉ ks := fun hm => by
    obtain ⟨i, hi, e⟩ := List.getElem_of_mem hm
    exact h i hi (by rw [getD_elem ks 0 hi]; exact e)
  exact ⟨if_neg hn, hn⟩

theorem idxOf_firstC : ∀ (ks : List Int) (v : Int) (k : Nat), k < ks.length → ks.getD k 0 = v → (∀ i, i < k → ks.getD i 0 ≠ v) → ks.idxOf v = k
  | [], _, _, h, _, _ => by simp at h
  | x :: r, v, 0, _, h, _ => by
    have : x = v := by simpa using h
    rw [this]; simp
  | x :: r, v, k + 1, hk, h, hf => by
    have hx : x ≠ v := by simpa using hf 0 (by omega)
    have := idxOf_firstC r v k (by simpa using hk) (by simpa using h) (fun i hi => by simpa using hf (i + 1) (by omega))
    have hx1 : (x == v) = false := beq_eq_false_iff_ne.2 hx
    rw [List.idxOf_cons, this, hx1]
    rfl

theorem idx_someC {ks : List Int} {v : Int} {k : Nat} (hk : k < ks.length) (h : ks.getD k 0 = v) (hf : ∀ i, i < k → ks.getD i 0 ≠ v) : idxC ks v = k ∧ v ∈ ks := by
  have hm : v ∈ ks := by rw [← h, getD_elem ks 0 hk]; exact List.getElem_mem hk
  exact ⟨by unfold idxC; rw [if_pos hm, idxOf_firstC ks v k hk h hf], hm⟩

set_option maxHeartbeats 400000 in
theorem index_anyC (a : Option Addr) (c : Nat) (ks : List Int) (v : Int) (w : World) (hbig : ks.length ≤ 9223372036854775807) (hks : IntsAt w a ks) :
    Calls Try.prog 56 #[.slice a ks.length c, .int .i64 v] w fun e w' => e = .returned (.int .i64 (idxC ks v)) ∧ w' = w := by
  have N : Hid ((∀ i, i < ks.length → ks.getD i 0 ≠ v) → idxC ks v = -1) := fun h => (idx_noneC h).1
  have Sm : Hid (∀ k, k < ks.length → ks.getD k 0 = v → (∀ i, i < k → ks.getD i 0 ≠ v) → idxC ks v = k) := fun k h1 h2 h3 => (idx_someC h1 h2 h3).1
  generalize idxC ks v = r at *
  generalize hn : ks.length = n at *
  have HN : Hid (ks.length = n) := hn
  clear hn
  go_enter Try.func56, Try.ntmps56
  go_wp2
  go_loopg [8] n (fun g s8 wr => ∃ k : Nat, k ≤ n ∧ n - k ≤ g ∧ s8 = .int .i64 k ∧ wr = w ∧ Hid (∀ i, i < k → ks.getD i 0 ≠ v))
  case atStart => exact ⟨0, by omega, by omega, rfl, rfl, fun i hi => by omega⟩
  case round =>
    obtain ⟨k, hk, hg, rfl, rfl, A⟩ := hrel
    by_cases hlt : k < n
    · obtain ⟨b, o, rfl, hc⟩ := hks k (by rw [HN.out]; exact hlt)
      clear hks
      by_cases he : v = ks.getD k 0
      · have Z := Sm.out k hlt he.symm A.out
        subst Z
        rw [← he] at hc
        clear he
        go_wp2
        go_ret
        exact ⟨rfl, rfl⟩
      · have HE : Hid (ks.getD k 0 ≠ v) := fun e => he e.symm
        have h1 : (v == ks.getD k 0) = false := beq_eq_false_iff_ne.2 he
        generalize hy : ks.getD k 0 = y at *
        have HY : Hid _ := hy
        clear hy
        go_wp2
        go_roundg (n - (k + 1))
        case measure => omega
        case rel =>
          refine ⟨k + 1, by omega, by omega, by go_num, rfl, (show Hid _ from fun i hi => ?_)⟩
          by_cases e : i = k
          · rw [e, HY.out]; exact HE.out
          · exact A.out i (by omega)
    · have : k = n := by omega
      subst this
      have Z := N.out A.out
      subst Z
      clear hks
      go_wp2
      go_ret
      exact ⟨rfl, rfl⟩
end Go.Proofs.Ytgjfmepbphfjoaa
