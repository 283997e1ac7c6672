/-
  Rows of a call's own, and boxes: what is known of them.
-/
import Derived.Test.YtebhlcjljdgnkaaUZaHk
import Derived.Test.YtebhlcjljdgnkaaUXdUe
import Derived.Test.YtebhlcjljdgnkaaUSaBa
import Derived.Test.YtebhlcjljdgnkaaUHbRaSlSmBkBoLay
import Derived.Test.YtebhlcjljdgnkaaURg
import Derived.Test.YtebhlcjljdgnkaaUTl
import Derived.Test.YtebhlcjljdgnkaaUUaSo
import Derived.Test.YtebhlcjljdgnkaaUHaSg
namespace Go.Proofs.Ytebhlcjljdgnkaa
open Go.RowKit

theorem ownsRow_base {w : World} {B B' e size n : Nat} {v : Value} {xs : List Value} (h : w.ownsRow B e size v n xs) (hB : B' ≤ B) : w.ownsRow B' e size v n xs := by
  obtain ⟨h1, h2⟩ := h
  refine ⟨h1, ?_⟩
  rcases h2 with h2 | ⟨g, cap, cur, h3, h4, h5⟩
  · exact Or.inl h2
  · exact Or.inr ⟨g, cap, cur, h3, Nat.le_trans hB h4, h5⟩

theorem infoBool : (Try.prog.info? 4).map (fun i => (i.zero, i.size, i.bytes)) = some (some (.bool false), 1, 1) := by kernel_rfl

theorem makeBools (n : Nat) (hn : n ≤ 24) (w : World) : (Instr.makeSlice 107 (.int .i64 (n : Int)) (.int .i64 (n : Int))).run Try.prog w = .ok (.slice (some ⟨w.heap.size, 0, none⟩) n n) (w.alloc (.cells (madeCells #[.bool false] n) 4)) :=
  run_make_row' (P := Try.prog) 107 4 (.bool false) 1 Try.underlying107 infoBool rfl .i64 .i64 n (by omega) (by omega) w

theorem row_of_own {w : World} {B g n cap : Nat} {ks : List Int} (h : w.ownsRow B 3 1 (.slice (some ⟨g, 0, none⟩) n cap) n (ks.map (Value.int .i64))) : B ≤ g ∧ n ≤ cap ∧ cap ≤ maxLen ∧ ks.length = n ∧ ∃ G, w.rowIs g 3 cap G ∧ ∀ j, j < n → G j = .int .i64 (ks.getD j 0) := by
  obtain ⟨hl, h⟩ := h
  rw [List.length_map, Nat.mul_one] at hl
  rcases h with ⟨h, _⟩ | ⟨g', cap', cur, e, h1, h2, h3, h4, h5, h6⟩
  · cases h
  · cases e
    rw [Nat.mul_one] at h5 h6
    refine ⟨h1, h3, h4, hl, fun j => cur[j]?.getD undef, ⟨cur, h2, h5, fun i hi => ?_⟩, fun j hj => ?_⟩
    · show cur[i]? = some (cur[i]?.getD undef)
      rw [Array.getElem?_eq_getElem (by omega)]
      rfl
    · have h7 : (cur.toList.take n)[j]? = (ks.map (Value.int .i64))[j]? := by rw [h6]
      rw [List.getElem?_take, if_pos hj, List.getElem?_map, List.getElem?_eq_getElem (l := ks) (by omega)] at h7
      show cur[j]?.getD undef = _
      rw [← Array.getElem?_toList, h7, getD_elem ks 0 (by omega)]
      rfl

theorem own_slice {w : World} {B : Nat} {v : Value} {ks : List Int} (h : w.ownsRow B 3 1 v ks.length (ks.map (Value.int .i64))) : ∃ pa pc, v = .slice pa ks.length pc ∧ IntsAt w pa ks ∧ (∀ k, v.ownBlock = some k → B ≤ k ∧ k < w.heap.size) := by
  have hlt := h.lt
  rcases h.2 with ⟨e, e0⟩ | ⟨g, cap, cur, e, _⟩
  · have hk : ks = [] := List.length_eq_zero_iff.1 e0
    subst hk
    exact ⟨none, 0, e, fun i hi => absurd hi (Nat.not_lt_zero _), hlt⟩
  · subst e
    obtain ⟨_, h2, _, _, G, hG, hGk⟩ := row_of_own h
    exact ⟨some ⟨g, 0, none⟩, cap, rfl, ints_of_row hG h2 hGk, hlt⟩

end Go.Proofs.Ytebhlcjljdgnkaa

namespace Go.Proofs.Ytebhlcjljdgnkaa
open Go.RowKit

theorem own_below {w w' : World} {B : Nat} {v : Value} {l : List Int} (h : w.ownsRow B 3 1 v l.length (l.map (Value.int .i64))) (hb : Below w.heap.size w w') : w'.ownsRow B 3 1 v l.length (l.map (Value.int .i64)) :=
  h.kept (row := none) ⟨hb.os, hb.tape, hb.output, hb.size, fun k hk _ => hb.block k hk⟩ (by
    cases hv : v.ownBlock with
    | none => exact Or.inl rfl
    | some k => exact Or.inr (fun e => by cases e))

end Go.Proofs.Ytebhlcjljdgnkaa

namespace Go.Proofs.Ytebhlcjljdgnkaa
open Go.RowKit

end Go.Proofs.Ytebhlcjljdgnkaa

namespace Go.Proofs.Ytebhlcjljdgnkaa
open Go.RowKit

def restE (S : List Nd) (e : Int) (l : List (Int × Int)) : Int := if e = 0 then handsE S l else e

end Go.Proofs.Ytebhlcjljdgnkaa

namespace Go.Proofs.Ytebhlcjljdgnkaa
open Go.RowKit

def SK : Nat → List Nd
  | 0 => List.replicate 6 unusedNd
  | k + 1 => (SK k).set k (madeNd (nd (SK k) k) k)

def S4 : List Nd := enterS (SK 3) 0 1 0
def S5 : List Nd := enterS S4 0 2 0

theorem sk_len : ∀ k, (SK k).length = 6
  | 0 => rfl
  | k + 1 => by simp only [SK, List.length_set]; exact sk_len k

theorem sk_facts : ∀ k, k < 3 → (freeB (nd (SK k) k) = true ∧ (nd (SK k) k).n = 0 ∧ (∀ i, i < k → freeB (nd (SK k) i) = false) ∧ (∀ i, i < 6 → (nd (SK k) i).ks.length ≤ 1000) ∧ checkE (SK k) = 0) := by
  intro k hk
  match k, hk with
  | 0, _ => decide
  | 1, _ => decide
  | 2, _ => decide

theorem sk3_check : tcheckE (SK 3) [(((0 : Nat) : Int), 1), (((1 : Nat) : Int), 1)] = 0 := by decide
theorem s4_check : tcheckE S4 [(((0 : Nat) : Int), 1), (((2 : Nat) : Int), 1), (((1 : Nat) : Int), 1)] = 0 := by decide
theorem s5_check : tcheckE S5 [(((0 : Nat) : Int), 1)] = 0 := by decide
theorem s5_check2 : tcheckE S5 [(((1 : Nat) : Int), 1), (((0 : Nat) : Int), 1)] = 0 := by decide
theorem s5_order : orderF S5 6 0 = [0, 2, 1] := by decide
theorem s3_fit : fitsB (SK 3) 1 0 = true := by decide
theorem s4_fit : fitsB S4 2 0 = true := by decide
theorem s5_fit : fitsB S5 0 1 = false := by decide
theorem s3_p : (nd (SK 3) 1).p = -1 := by decide
theorem s4_p : (nd S4 2).p = -1 := by decide
theorem s4_q : (nd S4 1).p = ((0 : Nat) : Int) := by decide
theorem s4_at : idx (nd S4 0).ks ((1 : Nat) : Int) = ((0 : Nat) : Int) := by decide
theorem s3_at : (nd (SK 3) 0).ks.length = 0 := by decide
theorem s4_len : S4.length = 6 := by decide
theorem s5_len : S5.length = 6 := by decide
theorem sk3_ks : ∀ i, i < (SK 3).length → (nd (SK 3) i).ks.length ≤ 1000 := by decide
theorem s4_ks : ∀ i, i < S4.length → (nd S4 i).ks.length ≤ 1000 := by decide
theorem s5_ks : ∀ i, i < S5.length → (nd S5 i).ks.length ≤ 1000 := by decide
end Go.Proofs.Ytebhlcjljdgnkaa

namespace Go.Proofs.Ytebhlcjljdgnkaa
open Go.RowKit

/-- A hearer at this spot. -/
def atSpot (x : Int × Bool) (h : Hr) : Bool := decide (h.pl = x.1) && (h.dn == x.2)
def hearF (L : List Hr) (x : Int × Bool) : List Hr := L.filter (atSpot x)
/-- The spots of an event: down to where the path begins, and up again. -/
def spotsF (P : List Int) : List (Int × Bool) := P.reverse.map (fun p => (p, true)) ++ P.map (fun p => (p, false))
/-- Those who are told, spot by spot, until somebody stops it. -/
def toldF (L : List Hr) : List (Int × Bool) → List Hr
  | [] => []
  | x :: t => hearF L x ++ if (hearF L x).any Hr.st then [] else toldF L t
def leftF (L : List Hr) (T : List Int) : List Hr := L.filter fun h => !(h.on && decide (h.id ∈ T))

structure Cal where
  id : Int
  pl : Int
  tg : Int
  ph : Int
  deriving DecidableEq

def phaseF (t p : Int) (down : Bool) : Int := if t = p then 2 else if down then 1 else 3
def callF (S : List Nd) (k : Nat) (x : Int × Bool) (id : Int) : Cal := ⟨id, x.1, targetF S k x.1.toNat, phaseF (targetF S k x.1.toNat) x.1 x.2⟩
def callH (S : List Nd) (k : Nat) (h : Hr) : Cal := callF S k (h.pl, h.dn) h.id

theorem hear_mem {L : List Hr} {x : Int × Bool} {h : Hr} : h ∈ hearF L x ↔ h ∈ L ∧ (h.pl, h.dn) = x := by
  unfold hearF atSpot
  rw [List.mem_filter]
  obtain ⟨p, d⟩ := x
  simp [Prod.ext_iff]

theorem told_mem {L : List Hr} {X : List (Int × Bool)} {h : Hr} (hm : h ∈ toldF L X) : h ∈ L ∧ (h.pl, h.dn) ∈ X := by
  induction X with
  | nil => simp [toldF] at hm
  | cons x t ih =>
    rw [toldF, List.mem_append] at hm
    rcases hm with hm | hm
    · obtain ⟨h1, h2⟩ := hear_mem.1 hm
      exact ⟨h1, by rw [h2]; simp⟩
    · split at hm
      · simp at hm
      · obtain ⟨h1, h2⟩ := ih hm
        exact ⟨h1, List.mem_cons_of_mem _ h2⟩

theorem told_pairwise {R : Hr → Hr → Prop} {L : List Hr} {X : List (Int × Bool)} (h1 : ∀ x ∈ X, (hearF L x).Pairwise R) (h2 : X.Pairwise fun x y => ∀ h ∈ hearF L x, ∀ h' ∈ hearF L y, R h h') : (toldF L X).Pairwise R := by
  induction X with
  | nil => simp [toldF]
  | cons x t ih =>
    rw [List.pairwise_cons] at h2
    rw [toldF, List.pairwise_append]
    refine ⟨h1 x (by simp), ?_, ?_⟩
    · split
      · simp
      · exact ih (fun y hy => h1 y (List.mem_cons_of_mem _ hy)) h2.2
    · intro h hm h' hm'
      split at hm'
      · simp at hm'
      · obtain ⟨h3, h4⟩ := told_mem hm'
        exact h2.1 _ h4 h hm h' (hear_mem.2 ⟨h3, rfl⟩)

theorem spots_nodup {P : List Int} (h : P.Nodup) : (spotsF P).Nodup := by
  unfold spotsF
  rw [List.nodup_append]
  refine ⟨?_, ?_, ?_⟩
  · rw [List.Nodup, List.pairwise_map]
    exact List.pairwise_reverse.2 (h.imp (fun hne e => hne (by simpa using e.symm)))
  · rw [List.Nodup, List.pairwise_map]
    exact h.imp (fun hne e => hne (by simpa using e))
  · intro x hx y hy e
    rw [List.mem_map] at hx hy
    obtain ⟨p, _, rfl⟩ := hx
    obtain ⟨q, _, rfl⟩ := hy
    simp at e

theorem spots_mem {P : List Int} {x : Int × Bool} (h : x ∈ spotsF P) : x.1 ∈ P := by
  unfold spotsF at h
  rw [List.mem_append, List.mem_map, List.mem_map] at h
  rcases h with ⟨p, hp, rfl⟩ | ⟨p, hp, rfl⟩
  · exact List.mem_reverse.1 hp
  · exact hp

/-- The way down is ahead of the way up. -/
theorem spots_order (P : List Int) : (spotsF P).Pairwise fun x y => x.2 = false → y.2 = false := by
  unfold spotsF
  rw [List.pairwise_append]
  refine ⟨?_, ?_, ?_⟩
  · rw [List.pairwise_map]
    exact List.Pairwise.imp (fun _ => by simp) (List.pairwise_of_forall (R := fun _ _ => True) (by simp))
  · rw [List.pairwise_map]
    exact List.Pairwise.imp (fun _ => by simp) (List.pairwise_of_forall (R := fun _ _ => True) (by simp))
  · intro x _ y hy _
    rw [List.mem_map] at hy
    obtain ⟨q, _, rfl⟩ := hy
    rfl

theorem told_order (L : List Hr) (P : List Int) : (toldF L (spotsF P)).Pairwise fun h h' => h.dn = false → h'.dn = false := by
  refine told_pairwise (fun x _ => ?_) ?_
  · refine List.Pairwise.imp_of_mem (R := fun _ _ => True) ?_ (List.pairwise_of_forall (by simp))
    intro h h' h1 h2 _ h3
    have e1 := (hear_mem.1 h1).2
    have e2 := (hear_mem.1 h2).2
    rw [← e1] at e2
    simp [Prod.ext_iff] at e2
    rw [e2.2]
    exact h3
  · refine (spots_order P).imp ?_
    intro x y hxy h h1 h' h2 h3
    have e1 := (hear_mem.1 h1).2
    have e2 := (hear_mem.1 h2).2
    subst e1
    have e3 : h'.dn = y.2 := by rw [← e2]
    rw [e3]
    exact hxy h3

theorem told_nodup {L : List Hr} {P : List Int} (hL : (L.map Hr.id).Nodup) (hP : P.Nodup) : ((toldF L (spotsF P)).map Hr.id).Nodup := by
  have hL2 : L.Pairwise fun h h' => h.id ≠ h'.id := by rw [List.Nodup, List.pairwise_map] at hL; exact hL
  have one : ∀ h ∈ L, ∀ h' ∈ L, h.id = h'.id → h = h' := by
    have := hL2
    induction L with
    | nil => intro h hm; simp at hm
    | cons a t ih =>
      rw [List.pairwise_cons] at this
      rw [List.map_cons, List.nodup_cons] at hL
      intro h hm h' hm' e
      rw [List.mem_cons] at hm hm'
      rcases hm with rfl | hm <;> rcases hm' with rfl | hm'
      · rfl
      · exact absurd e (this.1 _ hm')
      · exact absurd e.symm (this.1 _ hm)
      · exact ih hL.2 this.2 this.2 h hm h' hm' e
  rw [List.Nodup, List.pairwise_map]
  refine told_pairwise (fun x _ => ?_) ?_
  · unfold hearF
    exact hL2.filter _
  · refine (spots_nodup hP).imp ?_
    intro x y hxy h h1 h' h2 e
    obtain ⟨m1, e1⟩ := hear_mem.1 h1
    obtain ⟨m2, e2⟩ := hear_mem.1 h2
    have := one h m1 h' m2 e
    subst this
    exact hxy (e1.symm.trans e2)

theorem hcheck_nodup {N : Int} {L : List Hr} {seen : List Int} (hs : seen.Nodup) (h : hgo N seen L = 0) : (seen ++ L.map Hr.id).Nodup ∧ ∀ x ∈ L, 0 ≤ x.pl ∧ x.pl < N := by
  induction L generalizing seen with
  | nil => exact ⟨by simpa using hs, fun x hx => by simp at hx⟩
  | cons a t ih =>
    rw [hgo] at h
    split at h
    · cases h
    · rename_i hp
      split at h
      · cases h
      · rename_i hm
        have hs2 : (seen ++ [a.id]).Nodup := by
          rw [List.nodup_append]
          refine ⟨hs, by simp, ?_⟩
          intro x hx y hy e
          simp at hy
          exact hm (by rw [← hy, ← e]; exact hx)
        obtain ⟨h1, h2⟩ := ih hs2 h
        refine ⟨by simpa using h1, fun x hx => ?_⟩
        rw [List.mem_cons] at hx
        rcases hx with rfl | hx
        · omega
        · exact h2 x hx

theorem hcheck_ok {L : List Hr} {N : Int} (h : hcheckE L N = 0) : L.length ≤ 24 ∧ (L.map Hr.id).Nodup ∧ ∀ x ∈ L, 0 ≤ x.pl ∧ x.pl < N := by
  unfold hcheckE at h
  split at h
  · cases h
  · obtain ⟨h1, h2⟩ := hcheck_nodup (seen := []) (by simp) h
    exact ⟨by omega, by simpa using h1, h2⟩
end Go.Proofs.Ytebhlcjljdgnkaa
