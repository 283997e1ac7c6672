/-
  How many places are not in use: plain counting, no program.
-/
import Derived.Test.YtcohimljgjlkdaaXe
namespace Go.Proofs.Ytcohimljgjlkdaa.Room

/-- How many of the first n places are not in use. -/
def cnt (f : Nat → Nd) : Nat → Nat
  | 0 => 0
  | n + 1 => cnt f n + (if (f n).u then 0 else 1)

theorem cnt_congr {f f' : Nat → Nd} : ∀ n, (∀ i, i < n → (f i).u = (f' i).u) → cnt f n = cnt f' n
  | 0, _ => rfl
  | n + 1, h => by
    unfold cnt
    rw [cnt_congr n (fun i hi => h i (by omega)), h n (by omega)]

theorem cnt_free {f f' : Nat → Nd} {k : Nat} (hk : (f k).u = true) (hk' : (f' k).u = false) (ho : ∀ i, i ≠ k → (f' i).u = (f i).u) : ∀ n, k < n → cnt f' n = cnt f n + 1
  | 0, h => by omega
  | n + 1, h => by
    unfold cnt
    by_cases e : n = k
    · subst e
      rw [cnt_congr n (fun i hi => ho i (by omega)), hk, hk']
      simp
    · rw [cnt_free hk hk' ho n (by omega), ho n e]
      omega

theorem cnt_zero {f : Nat → Nd} : ∀ n, cnt f n = 0 → ∀ i, i < n → (f i).u = true
  | 0, _, i, hi => by omega
  | n + 1, h, i, hi => by
    unfold cnt at h
    by_cases e : i = n
    · subst e
      cases hu : (f i).u
      · simp [hu] at h
      · rfl
    · exact cnt_zero n (by omega) i (by omega)

theorem cnt_pos {f : Nat → Nd} : ∀ n, 0 < cnt f n → ∃ k, k < n ∧ (f k).u = false ∧ ∀ i, i < k → (f i).u = true
  | 0, h => by unfold cnt at h; omega
  | n + 1, h => by
    by_cases e : 0 < cnt f n
    · obtain ⟨k, hk, h1, h2⟩ := cnt_pos n e
      exact ⟨k, by omega, h1, h2⟩
    · have hz : cnt f n = 0 := by omega
      refine ⟨n, by omega, ?_, cnt_zero n hz⟩
      unfold cnt at h
      cases hu : (f n).u
      · rfl
      · simp [hu, hz] at h

theorem cnt_all {f : Nat → Nd} : ∀ n, (∀ i, i < n → (f i).u = true) → cnt f n = 0
  | 0, _ => rfl
  | n + 1, h => by
    unfold cnt
    rw [cnt_all n (fun i hi => h i (by omega)), h n (by omega)]
    simp

/-- What is so of all places while some are freed. -/
def Ones (f : Nat → Nd) (n : Nat) : Prop := ∀ i, i < n → (f i).p = -1 ∧ (f i).h = -1 ∧ (f i).n = 1

/-- What is so of all places while those are used again. -/
def Fine (f : Nat → Nd) (n : Nat) : Prop := ∀ i, i < n → (f i).u = false → (f i).n = 1

theorem Ones.fine {f : Nat → Nd} {n : Nat} (h : Ones f n) : Fine f n := fun i hi _ => (h i hi).2.2

def freed (f : Nat → Nd) (k : Nat) : Nat → Nd := fun i => if i = k then ⟨false, (f k).n, 0, 0, -1, [], -1, false⟩ else f i

theorem Ones.freed {f : Nat → Nd} {n k : Nat} (h : Ones f n) (hk : k < n) : Ones (freed f k) n := by
  intro i hi
  unfold Ytcohimljgjlkdaa.Room.freed
  by_cases e : i = k
  · simp only [if_pos e]
    exact ⟨trivial, trivial, (h k hk).2.2⟩
  · simp only [if_neg e]
    exact h i hi

theorem cnt_freed {f : Nat → Nd} {n k : Nat} (hk : k < n) (hu : (f k).u = true) : cnt (freed f k) n = cnt f n + 1 :=
  cnt_free hu (by simp [freed]) (fun i hi => by simp [freed, hi]) n hk

def made (f : Nat → Nd) (k : Nat) (t : Int) : Nat → Nd := fun i => if i = k then { f k with u := true, n := (f k).n + 1, t := t } else f i

theorem Fine.made {f : Nat → Nd} {n k : Nat} (h : Fine f n) (t : Int) : Fine (made f k t) n := by
  intro i hi hu
  unfold Ytcohimljgjlkdaa.Room.made at hu ⊢
  by_cases e : i = k
  · simp only [if_pos e] at hu
    cases hu
  · simp only [if_neg e] at hu ⊢
    exact h i hi hu

theorem cnt_made {f : Nat → Nd} {n k : Nat} (hk : k < n) (hu : (f k).u = false) (t : Int) : cnt f n = cnt (made f k t) n + 1 :=
  cnt_free (by simp [made]) hu (fun i hi => by simp [made, hi]) n hk

end Go.Proofs.Ytcohimljgjlkdaa.Room
