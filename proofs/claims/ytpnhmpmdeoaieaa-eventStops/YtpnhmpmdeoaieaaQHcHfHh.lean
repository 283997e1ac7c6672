/-
  WITHOUT THE PROGRAM: who is told of an event, in which order, and who is left.
-/
import Derived.Test.YtpnhmpmdeoaieaaQHa
import Derived.Test.YtpnhmpmdeoaieaaQXdZa
import Derived.Laws.StructEq
namespace Go.Proofs.Ytpnhmpmdeoaieaa
open Go.RowKit

/-- A hearer at this spot. -/
def atSpot (x : Int × Bool) (h : Hr) : Bool := decide (h.pl = x.1) && (h.dn == x.2)
def hearF (L : List Hr) (x : Int × Bool) : List Hr := L.filter (atSpot x)
/-- The spots of an event: down to where the path begins, and up again. -/
def spotsF (P : List Int) : List (Int × Bool) := P.reverse.map (fun p => (p, true)) ++ P.map (fun p => (p, false))
/-- Those who are told, spot by spot, until somebody stops it. -/
def toldF (L : List Hr) : List (Int × Bool) → List Hr
  | [] => []
  | x :: t => hearF L x ++ if (hearF L x).any Hr.st then [] else toldF L t
def leftF (L : List Hr) (T : List Int) : List Hr := L.filter fun h => !(h.on && decide (h.id ∈ T))

structure Cal where
  id : Int
  pl : Int
  tg : Int
  ph : Int
  deriving DecidableEq

def phaseF (t p : Int) (down : Bool) : Int := if t = p then 2 else if down then 1 else 3
def callF (S : List Nd) (k : Nat) (x : Int × Bool) (id : Int) : Cal := ⟨id, x.1, targetF S k x.1.toNat, phaseF (targetF S k x.1.toNat) x.1 x.2⟩
def callH (S : List Nd) (k : Nat) (h : Hr) : Cal := callF S k (h.pl, h.dn) h.id

theorem hear_mem {L : List Hr} {x : Int × Bool} {h : Hr} : h ∈ hearF L x ↔ h ∈ L ∧ (h.pl, h.dn) = x := by
  unfold hearF atSpot
  rw [List.mem_filter]
  obtain ⟨p, d⟩ := x
  simp [Prod.ext_iff]

theorem told_mem {L : List Hr} {X : List (Int × Bool)} {h : Hr} (hm : h ∈ toldF L X) : h ∈ L ∧ (h.pl, h.dn) ∈ X := by
  induction X with
  | nil => simp [toldF] at hm
  | cons x t ih =>
    rw [toldF, List.mem_append] at hm
    rcases hm with hm | hm
    · obtain ⟨h1, h2⟩ := hear_mem.1 hm
      exact ⟨h1, by rw [h2]; simp⟩
    · split at hm
      · simp at hm
      · obtain ⟨h1, h2⟩ := ih hm
        exact ⟨h1, List.mem_cons_of_mem _ h2⟩

theorem told_pairwise {R : Hr → Hr → Prop} {L : List Hr} {X : List (Int × Bool)} (h1 : ∀ x ∈ X, (hearF L x).Pairwise R) (h2 : X.Pairwise fun x y => ∀ h ∈ hearF L x, ∀ h' ∈ hearF L y, R h h') : (toldF L X).Pairwise R := by
  induction X with
  | nil => simp [toldF]
  | cons x t ih =>
    rw [List.pairwise_cons] at h2
    rw [toldF, List.pairwise_append]
    refine ⟨h1 x (by simp), ?_, ?_⟩
    · split
      · simp
      · exact ih (fun y hy => h1 y (List.mem_cons_of_mem _ hy)) h2.2
    · intro h hm h' hm'
      split at hm'
      · simp at hm'
      · obtain ⟨h3, h4⟩ := told_mem hm'
        exact h2.1 _ h4 h hm h' (hear_mem.2 ⟨h3, rfl⟩)

theorem spots_nodup {P : List Int} (h : P.Nodup) : (spotsF P).Nodup := by
  unfold spotsF
  rw [List.nodup_append]
  refine ⟨?_, ?_, ?_⟩
  · rw [List.Nodup, List.pairwise_map]
    exact List.pairwise_reverse.2 (h.imp (fun hne e => hne (by simpa using e.symm)))
  · rw [List.Nodup, List.pairwise_map]
    exact h.imp (fun hne e => hne (by simpa using e))
  · intro x hx y hy e
    rw [List.mem_map] at hx hy
    obtain ⟨p, _, rfl⟩ := hx
    obtain ⟨q, _, rfl⟩ := hy
    simp at e

theorem spots_mem {P : List Int} {x : Int × Bool} (h : x ∈ spotsF P) : x.1 ∈ P := by
  unfold spotsF at h
  rw [List.mem_append, List.mem_map, List.mem_map] at h
  rcases h with ⟨p, hp, rfl⟩ | ⟨p, hp, rfl⟩
  · exact List.mem_reverse.1 hp
  · exact hp

/-- The way down is ahead of the way up. -/
theorem spots_order (P : List Int) : (spotsF P).Pairwise fun x y => x.2 = false → y.2 = false := by
  unfold spotsF
  rw [List.pairwise_append]
  refine ⟨?_, ?_, ?_⟩
  · rw [List.pairwise_map]
    exact List.Pairwise.imp (fun _ => by simp) (List.pairwise_of_forall (R := fun _ _ => True) (by simp))
  · rw [List.pairwise_map]
    exact List.Pairwise.imp (fun _ => by simp) (List.pairwise_of_forall (R := fun _ _ => True) (by simp))
  · intro x _ y hy _
    rw [List.mem_map] at hy
    obtain ⟨q, _, rfl⟩ := hy
    rfl

theorem told_order (L : List Hr) (P : List Int) : (toldF L (spotsF P)).Pairwise fun h h' => h.dn = false → h'.dn = false := by
  refine told_pairwise (fun x _ => ?_) ?_
  · refine List.Pairwise.imp_of_mem (R := fun _ _ => True) ?_ (List.pairwise_of_forall (by simp))
    intro h h' h1 h2 _ h3
    have e1 := (hear_mem.1 h1).2
    have e2 := (hear_mem.1 h2).2
    rw [← e1] at e2
    simp [Prod.ext_iff] at e2
    rw [e2.2]
    exact h3
  · refine (spots_order P).imp ?_
    intro x y hxy h h1 h' h2 h3
    have e1 := (hear_mem.1 h1).2
    have e2 := (hear_mem.1 h2).2
    subst e1
    have e3 : h'.dn = y.2 := by rw [← e2]
    rw [e3]
    exact hxy h3

theorem told_nodup {L : List Hr} {P : List Int} (hL : (L.map Hr.id).Nodup) (hP : P.Nodup) : ((toldF L (spotsF P)).map Hr.id).Nodup := by
  have hL2 : L.Pairwise fun h h' => h.id ≠ h'.id := by rw [List.Nodup, List.pairwise_map] at hL; exact hL
  have one : ∀ h ∈ L, ∀ h' ∈ L, h.id = h'.id → h = h' := by
    have := hL2
    induction L with
    | nil => intro h hm; simp at hm
    | cons a t ih =>
      rw [List.pairwise_cons] at this
      rw [List.map_cons, List.nodup_cons] at hL
      intro h hm h' hm' e
      rw [List.mem_cons] at hm hm'
      rcases hm with rfl | hm <;> rcases hm' with rfl | hm'
      · rfl
      · exact absurd e (this.1 _ hm')
      · exact absurd e.symm (this.1 _ hm)
      · exact ih hL.2 this.2 this.2 h hm h' hm' e
  rw [List.Nodup, List.pairwise_map]
  refine told_pairwise (fun x _ => ?_) ?_
  · unfold hearF
    exact hL2.filter _
  · refine (spots_nodup hP).imp ?_
    intro x y hxy h h1 h' h2 e
    obtain ⟨m1, e1⟩ := hear_mem.1 h1
    obtain ⟨m2, e2⟩ := hear_mem.1 h2
    have := one h m1 h' m2 e
    subst this
    exact hxy (e1.symm.trans e2)

theorem hcheck_nodup {N : Int} {L : List Hr} {seen : List Int} (hs : seen.Nodup) (h : hgo N seen L = 0) : (seen ++ L.map Hr.id).Nodup ∧ ∀ x ∈ L, 0 ≤ x.pl ∧ x.pl < N := by
  induction L generalizing seen with
  | nil => exact ⟨by simpa using hs, fun x hx => by simp at hx⟩
  | cons a t ih =>
    rw [hgo] at h
    split at h
    · cases h
    · rename_i hp
      split at h
      · cases h
      · rename_i hm
        have hs2 : (seen ++ [a.id]).Nodup := by
          rw [List.nodup_append]
          refine ⟨hs, by simp, ?_⟩
          intro x hx y hy e
          simp at hy
          exact hm (by rw [← hy, ← e]; exact hx)
        obtain ⟨h1, h2⟩ := ih hs2 h
        refine ⟨by simpa using h1, fun x hx => ?_⟩
        rw [List.mem_cons] at hx
        rcases hx with rfl | hx
        · omega
        · exact h2 x hx

theorem hcheck_ok {L : List Hr} {N : Int} (h : hcheckE L N = 0) : L.length ≤ 24 ∧ (L.map Hr.id).Nodup ∧ ∀ x ∈ L, 0 ≤ x.pl ∧ x.pl < N := by
  unfold hcheckE at h
  split at h
  · cases h
  · obtain ⟨h1, h2⟩ := hcheck_nodup (seen := []) (by simp) h
    exact ⟨by omega, by simpa using h1, h2⟩
end Go.Proofs.Ytpnhmpmdeoaieaa

namespace Go.Proofs.Ytpnhmpmdeoaieaa
open Go.RowKit
set_option linter.unusedVariables false

def cal (L : List Cal) (i : Nat) : Cal := L.getD i ⟨0, 0, 0, 0⟩
theorem cal_elem {L : List Cal} {i : Nat} (h : i < L.length) : cal L i = L[i] := by unfold cal; simp [h]
def CalsAt (w : World) (a : Option Addr) (L : List Cal) : Prop :=
  ∀ i, i < L.length → ∃ b o, a = some ⟨b, o, none⟩ ∧ w.cell? ⟨b, o + i * 4, none⟩ = some (.int .i64 (cal L i).id) ∧ w.cell? ⟨b, o + i * 4 + 1, none⟩ = some (.int .i64 (cal L i).pl) ∧ w.cell? ⟨b, o + i * 4 + 2, none⟩ = some (.int .i64 (cal L i).tg) ∧ w.cell? ⟨b, o + i * 4 + 3, none⟩ = some (.int .i64 (cal L i).ph)
theorem CalsAt.below {w w' : World} {a : Option Addr} {L : List Cal} (h : CalsAt w a L) (hb : Below w.heap.size w w') : CalsAt w' a L := fun i hi => by
  obtain ⟨b, o, e, h1, h2, h3, h4⟩ := h i hi
  have hlt : b < w.heap.size := World.block_lt_of_cell? _ _ h1
  exact ⟨b, o, e, (hb.cell (by exact hlt)).trans h1, (hb.cell (by exact hlt)).trans h2, (hb.cell (by exact hlt)).trans h3, (hb.cell (by exact hlt)).trans h4⟩

set_option maxHeartbeats 1000000 in
theorem equalCals_same (a a' : Option Addr) (c c' : Nat) (L : List Cal) (w : World) (hN : L.length ≤ 9223372036854775807) (h1 : CalsAt w a L) (h2 : CalsAt w a' L) :
    Calls Try.prog 11 #[.slice a L.length c, .slice a' L.length c'] w fun e w' => e = .returned (.bool true) ∧ Below w.heap.size w w' := by
  have H1 : Hid (CalsAt w a L) := h1
  have H2 : Hid (CalsAt w a' L) := h2
  clear h1 h2
  obtain ⟨n, hn⟩ : ∃ n, L.length = n := ⟨_, rfl⟩
  have HN : Hid (L.length = n) := hn
  rw [hn] at hN ⊢
  clear hn
  go_enter Try.func11, Try.ntmps11
  go_wp2
  go_loopg [13] n (fun g s13 wr => ∃ k : Nat, k ≤ n ∧ n - k ≤ g ∧ s13 = .int .i64 k ∧ Below w.heap.size w wr)
  case atStart => exact ⟨0, by omega, by omega, rfl, Below.refl _ _⟩
  case round =>
    obtain ⟨k, hk, hg, rfl, hb⟩ := hrel
    by_cases hlt : k < n
    · have hlt2 : (k : Int) < (n : Int) := by omega
      obtain ⟨b, o, rfl, c0, c1, c2, c3⟩ := (H1.out.below hb) k (by rw [HN.out]; exact hlt)
      obtain ⟨b', o', rfl, e0, e1, e2, e3⟩ := (H2.out.below hb) k (by rw [HN.out]; exact hlt)
      generalize cal L k = x at *
      obtain ⟨x0, x1, x2, x3⟩ := x
      dsimp only at c0 c1 c2 c3 e0 e1 e2 e3
      go_wp2_with fail
      go_quiet (fail)
      go_wp2
      go_roundg (n - (k + 1))
      case measure => omega
      case rel => exact ⟨k + 1, by omega, by omega, by go_num, Below.drewNs hb _⟩
    · have : k = n := by omega
      subst this
      go_wp2
      go_ret
      exact ⟨rfl, hb⟩

set_option maxHeartbeats 1000000 in
theorem equalHrs_same (a a' : Option Addr) (c c' : Nat) (L : List Hr) (w : World) (hN : L.length ≤ 9223372036854775807) (h1 : HrsAt w a L) (h2 : HrsAt w a' L) :
    Calls Try.prog 12 #[.slice a L.length c, .slice a' L.length c'] w fun e w' => e = .returned (.bool true) ∧ Below w.heap.size w w' := by
  have H1 : Hid (HrsAt w a L) := h1
  have H2 : Hid (HrsAt w a' L) := h2
  clear h1 h2
  obtain ⟨n, hn⟩ : ∃ n, L.length = n := ⟨_, rfl⟩
  have HN : Hid (L.length = n) := hn
  rw [hn] at hN ⊢
  clear hn
  go_enter Try.func12, Try.ntmps12
  go_wp2
  go_loopg [13] n (fun g s13 wr => ∃ k : Nat, k ≤ n ∧ n - k ≤ g ∧ s13 = .int .i64 k ∧ Below w.heap.size w wr)
  case atStart => exact ⟨0, by omega, by omega, rfl, Below.refl _ _⟩
  case round =>
    obtain ⟨k, hk, hg, rfl, hb⟩ := hrel
    by_cases hlt : k < n
    · have hlt2 : (k : Int) < (n : Int) := by omega
      obtain ⟨b, o, rfl, c0, c1, c2, c3, c4⟩ := (H1.out.below hb) k (by rw [HN.out]; exact hlt)
      obtain ⟨b', o', rfl, e0, e1, e2, e3, e4⟩ := (H2.out.below hb) k (by rw [HN.out]; exact hlt)
      generalize hr L k = x at *
      obtain ⟨x0, x1, x2, x3, x4⟩ := x
      dsimp only at c0 c1 c2 c3 c4 e0 e1 e2 e3 e4
      go_wp2_with fail
      go_quiet (fail)
      go_wp2
      go_roundg (n - (k + 1))
      case measure => omega
      case rel => exact ⟨k + 1, by omega, by omega, by go_num, Below.drewNs hb _⟩
    · have : k = n := by omega
      subst this
      go_wp2
      go_ret
      exact ⟨rfl, hb⟩
end Go.Proofs.Ytpnhmpmdeoaieaa

namespace Go.Proofs.Ytpnhmpmdeoaieaa
open Go.RowKit

/-- What is asked of a function value that tells yes or no of a hearer. -/
def TellsHr (Ok : Hr → Prop) (K : Nat) (caps : Array Value) (p : Hr → Bool) (w : World) : Prop :=
  ∀ (x : Hr) (w1 : World), Ok x → Below w.heap.size w w1 → Calls Try.prog K (#[.agg #[.int .i64 x.pl, .bool x.dn, .bool x.on, .bool x.st, .int .i64 x.id]] ++ caps) w1 fun e w2 => e = .returned (.bool (p x)) ∧ Below w1.heap.size w1 w2

set_option maxHeartbeats 800000 in
theorem indexHr_any (Ok : Hr → Prop) (K : Nat) (caps : Array Value) (p : Hr → Bool) (a : Option Addr) (c : Nat) (L : List Hr) (w : World) (hbig : L.length ≤ 9223372036854775807) (hL : HrsAt w a L)
    (eg : ∀ args w, (callFunc K args).run Try.prog w = .ok (.enter K args) w) (hok : ∀ i, i < L.length → Ok (hr L i)) (hf : TellsHr Ok K caps p w) :
    Calls Try.prog 14 #[.slice a L.length c, .func (.func K) #[] caps] w fun e w' => ∃ r : Int, e = .returned (.int .i64 r) ∧ Below w.heap.size w w' ∧
      ((r = -1 ∧ ∀ i, i < L.length → p (hr L i) = false) ∨ (∃ k : Nat, k < L.length ∧ r = k ∧ p (hr L k) = true ∧ ∀ i, i < k → p (hr L i) = false)) := by
  have HS : Hid (HrsAt w a L) := hL
  have HF : Hid (TellsHr Ok K caps p w) := hf
  have HOK : Hid (∀ i, i < L.length → Ok (hr L i)) := hok
  clear hL hf hok
  generalize hn : L.length = n at *
  have HN : Hid _ := hn
  clear hn
  go_enter Try.func14, Try.ntmps14
  go_wp2
  go_loopg [8] n (fun g s8 wr => ∃ k : Nat, k ≤ n ∧ n - k ≤ g ∧ s8 = .int .i64 k ∧ Below w.heap.size w wr ∧ Hid (∀ i, i < k → p (hr L i) = false))
  case atStart => exact ⟨0, by omega, by omega, rfl, Below.refl _ _, fun i hi => by omega⟩
  case round =>
    obtain ⟨k, hk, hg, rfl, hb, A⟩ := hrel
    by_cases hlt : k < n
    · have hlt2 : (k : Int) < (n : Int) := by omega
      obtain ⟨b, o, rfl, c0, c1, c2, c3, c4⟩ := (HS.out.below hb) k (by rw [HN.out]; exact hlt)
      have hcall := HF.out (hr L k) wr (HOK.out k hlt) hb
      cases hq : p (hr L k) with
      | true =>
        have HQ : Hid (p (hr L k) = true) := hq
        rw [hq] at hcall
        clear hq
        generalize hx : hr L k = x at hcall c0 c1 c2 c3 c4
        clear hx
        go_wp2_with (go_at_fn K; refine hcall.mono ?_; rintro e w' ⟨rfl, hb2⟩)
        go_ret
        exact ⟨k, rfl, hb.trans (hb2.mono hb.size), Or.inr ⟨k, hlt, rfl, HQ.out, A.out⟩⟩
      | false =>
        have HQ : Hid (p (hr L k) = false) := hq
        rw [hq] at hcall
        clear hq
        generalize hx : hr L k = x at hcall c0 c1 c2 c3 c4
        clear hx
        go_wp2_with (go_at_fn K; refine hcall.mono ?_; rintro e w' ⟨rfl, hb2⟩)
        go_roundg (n - (k + 1))
        case measure => omega
        case rel =>
          refine ⟨k + 1, by omega, by omega, by go_num, hb.trans (hb2.mono hb.size), (show Hid _ from fun i hi => ?_)⟩
          by_cases e : i = k
          · subst e
            exact HQ.out
          · exact A.out i (by omega)
    · have : k = n := by omega
      subst this
      go_wp2
      go_ret
      exact ⟨-1, rfl, hb, Or.inl ⟨rfl, A.out⟩⟩

/-- EventTold's closure: this hearer has the call's ID. -/
theorem told1_any (q : Nat) (y : Int) (w : World) (hq : w.cell? ⟨q, 0, none⟩ = some (.int .i64 y)) : TellsHr (fun _ => True) 15 #[.pointer (some ⟨q, 0, none⟩)] (fun x => decide (x.id = y)) w := by
  intro x w1 _ hb
  obtain ⟨xp, xd, xo, xs, xi⟩ := x
  have c0 := keepC hq hb
  have hlt := World.block_lt_of_cell? _ _ c0
  dsimp only
  by_cases h : xi = y
  · rw [decide_eq_true h]
    subst h
    go_enter Try.func15, Try.ntmps15
    go_wp2_with fail
    go_ret
    exact ⟨by simp, one_belowS _ _⟩
  · rw [decide_eq_false h]
    have h2 : (xi == y) = false := by simp [h]
    go_enter Try.func15, Try.ntmps15
    go_wp2_with fail
    go_ret
    exact ⟨by simp, one_belowS _ _⟩
end Go.Proofs.Ytpnhmpmdeoaieaa
