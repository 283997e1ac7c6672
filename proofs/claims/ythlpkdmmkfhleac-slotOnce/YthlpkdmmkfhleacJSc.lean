/-
  Contracts of sameNode, inForm and checkNode: a node by itself.
-/
import Derived.Test.YthlpkdmmkfhleacJSaSb
namespace Go.Proofs.Ythlpkdmmkfhleac
open Go.RowKit

theorem same_low {w w1 : World} {u u' : Bool} {n n' t t' m m' p p' : Int} {k k' : Value} {h h' : Int} {c c' : Bool} (hb : Below (w.heap.size + 1 + 1) ((w.alloc (.cells #[.bool u, .int .i64 n, .int .i64 t, .int .i64 m, .int .i64 p, k, .int .i64 h, .bool c] 52)).alloc (.cells #[.bool u', .int .i64 n', .int .i64 t', .int .i64 m', .int .i64 p', k', .int .i64 h', .bool c'] 52)) w1) :
    w1.cell? ⟨w.heap.size, 6, none⟩ = some (.int .i64 h) ∧ w1.cell? ⟨w.heap.size, 7, none⟩ = some (.bool c) ∧ w1.cell? ⟨w.heap.size + 1, 6, none⟩ = some (.int .i64 h') ∧ w1.cell? ⟨w.heap.size + 1, 7, none⟩ = some (.bool c') :=
  ⟨(hb.cell (by simp; omega)).trans (by go_simp), (hb.cell (by simp; omega)).trans (by go_simp), (hb.cell (by simp)).trans (by go_simp), (hb.cell (by simp)).trans (by go_simp)⟩

set_option maxHeartbeats 4000000 in
theorem sameNode_any (u u' : Bool) (n n' t t' m m' p p' : Int) (ks ks' : List Int) (ka ka' : Option Addr) (kc kc' : Nat) (h h' : Int) (c c' : Bool) (w : World) (hbig : ks.length ≤ 9223372036854775807) (h1 : IntsAt w ka ks) (h2 : IntsAt w ka' ks') :
    Calls Try.prog 117 #[.agg #[.bool u, .int .i64 n, .int .i64 t, .int .i64 m, .int .i64 p, .slice ka ks.length kc, .int .i64 h, .bool c], .agg #[.bool u', .int .i64 n', .int .i64 t', .int .i64 m', .int .i64 p', .slice ka' ks'.length kc', .int .i64 h', .bool c']] w fun e w' => e = .returned (.bool (decide (u = u' ∧ n = n' ∧ t = t' ∧ m = m' ∧ p = p' ∧ ks = ks' ∧ h = h' ∧ c = c'))) ∧ Below w.heap.size w w' := by
  have hk := fun (W : World) (g1 : IntsAt W ka ks) (g2 : IntsAt W ka' ks') => equal_any ka ka' kc kc' ks ks' W hbig g1 g2
  have i1 : ∀ o1 o2, IntsAt ((w.alloc o1).alloc o2) ka ks := fun o1 o2 => h1.below (((Below.refl _ _).alloc (Nat.le_refl _) _).alloc (by simp) _)
  have i2 : ∀ o1 o2, IntsAt ((w.alloc o1).alloc o2) ka' ks' := fun o1 o2 => h2.below (((Below.refl _ _).alloc (Nat.le_refl _) _).alloc (by simp) _)
  have I1 : Hid _ := i1
  have I2 : Hid _ := i2
  clear i1 i2 h1 h2
  by_cases Eu : u = u'
  · subst Eu
    by_cases En : n = n'
    · subst En
      by_cases Et : t = t'
      · subst Et
        by_cases Em : m = m'
        · subst Em
          by_cases Ep : p = p'
          · subst Ep
            by_cases EK : ks = ks'
            · have ED : decide (ks = ks') = true := decide_eq_true EK
              rw [ED] at hk
              clear ED
              by_cases Eh : h = h'
              · subst Eh
                by_cases Ec : c = c'
                · subst Ec
                  have hs : decide (u = u ∧ n = n ∧ t = t ∧ m = m ∧ p = p ∧ ks = ks' ∧ h = h ∧ c = c) = true := by simp [EK]
                  rw [hs]
                  clear hs EK
                  go_enter Try.func117, Try.ntmps117
                  go_wp2_with (go_at_call 17; refine (hk _ (I1.out _ _) (I2.out _ _)).mono ?_; rintro e w' ⟨rfl, hb⟩; simp only [World.size_alloc] at hb; obtain ⟨l1, l2, l3, l4⟩ := same_low hb)
                  go_ret
                  first
                    | exact ⟨rfl, ((Below.refl _ _).alloc (Nat.le_refl _) _).alloc (by simp) _⟩
                    | exact ⟨rfl, (((Below.refl _ _).alloc (Nat.le_refl _) _).alloc (by simp) _).trans (hb.mono (by omega))⟩
                · have hs : decide (u = u ∧ n = n ∧ t = t ∧ m = m ∧ p = p ∧ ks = ks' ∧ h = h ∧ c = c') = false := by simp [Ec]
                  rw [hs]
                  clear hs EK
                  cases c <;> cases c' <;> first | exact absurd rfl Ec | skip
                  all_goals
                    go_enter Try.func117, Try.ntmps117
                    go_wp2_with (go_at_call 17; refine (hk _ (I1.out _ _) (I2.out _ _)).mono ?_; rintro e w' ⟨rfl, hb⟩; simp only [World.size_alloc] at hb; obtain ⟨l1, l2, l3, l4⟩ := same_low hb)
                    go_ret
                    first
                      | exact ⟨rfl, ((Below.refl _ _).alloc (Nat.le_refl _) _).alloc (by simp) _⟩
                      | exact ⟨rfl, (((Below.refl _ _).alloc (Nat.le_refl _) _).alloc (by simp) _).trans (hb.mono (by omega))⟩
              · have hs : decide (u = u ∧ n = n ∧ t = t ∧ m = m ∧ p = p ∧ ks = ks' ∧ h = h' ∧ c = c') = false := by simp [Eh]
                rw [hs]
                clear hs EK
                go_enter Try.func117, Try.ntmps117
                go_wp2_with (go_at_call 17; refine (hk _ (I1.out _ _) (I2.out _ _)).mono ?_; rintro e w' ⟨rfl, hb⟩; simp only [World.size_alloc] at hb; obtain ⟨l1, l2, l3, l4⟩ := same_low hb)
                go_ret
                first
                  | exact ⟨rfl, ((Below.refl _ _).alloc (Nat.le_refl _) _).alloc (by simp) _⟩
                  | exact ⟨rfl, (((Below.refl _ _).alloc (Nat.le_refl _) _).alloc (by simp) _).trans (hb.mono (by omega))⟩
            · have ED : decide (ks = ks') = false := decide_eq_false EK
              rw [ED] at hk
              have hs : decide (u = u ∧ n = n ∧ t = t ∧ m = m ∧ p = p ∧ ks = ks' ∧ h = h' ∧ c = c') = false := by simp [EK]
              rw [hs]
              clear hs EK ED
              go_enter Try.func117, Try.ntmps117
              go_wp2_with (go_at_call 17; refine (hk _ (I1.out _ _) (I2.out _ _)).mono ?_; rintro e w' ⟨rfl, hb⟩; simp only [World.size_alloc] at hb; obtain ⟨l1, l2, l3, l4⟩ := same_low hb)
              go_ret
              first
                | exact ⟨rfl, ((Below.refl _ _).alloc (Nat.le_refl _) _).alloc (by simp) _⟩
                | exact ⟨rfl, (((Below.refl _ _).alloc (Nat.le_refl _) _).alloc (by simp) _).trans (hb.mono (by omega))⟩
          · have hs : decide (u = u ∧ n = n ∧ t = t ∧ m = m ∧ p = p' ∧ ks = ks' ∧ h = h' ∧ c = c') = false := by simp [Ep]
            rw [hs]
            clear hs
            go_enter Try.func117, Try.ntmps117
            go_wp2_with (go_at_call 17; refine (hk _ (I1.out _ _) (I2.out _ _)).mono ?_; rintro e w' ⟨rfl, hb⟩; simp only [World.size_alloc] at hb; obtain ⟨l1, l2, l3, l4⟩ := same_low hb)
            go_ret
            first
              | exact ⟨rfl, ((Below.refl _ _).alloc (Nat.le_refl _) _).alloc (by simp) _⟩
              | exact ⟨rfl, (((Below.refl _ _).alloc (Nat.le_refl _) _).alloc (by simp) _).trans (hb.mono (by omega))⟩
        · have hs : decide (u = u ∧ n = n ∧ t = t ∧ m = m' ∧ p = p' ∧ ks = ks' ∧ h = h' ∧ c = c') = false := by simp [Em]
          rw [hs]
          clear hs
          go_enter Try.func117, Try.ntmps117
          go_wp2_with (go_at_call 17; refine (hk _ (I1.out _ _) (I2.out _ _)).mono ?_; rintro e w' ⟨rfl, hb⟩; simp only [World.size_alloc] at hb; obtain ⟨l1, l2, l3, l4⟩ := same_low hb)
          go_ret
          first
            | exact ⟨rfl, ((Below.refl _ _).alloc (Nat.le_refl _) _).alloc (by simp) _⟩
            | exact ⟨rfl, (((Below.refl _ _).alloc (Nat.le_refl _) _).alloc (by simp) _).trans (hb.mono (by omega))⟩
      · have hs : decide (u = u ∧ n = n ∧ t = t' ∧ m = m' ∧ p = p' ∧ ks = ks' ∧ h = h' ∧ c = c') = false := by simp [Et]
        rw [hs]
        clear hs
        go_enter Try.func117, Try.ntmps117
        go_wp2_with (go_at_call 17; refine (hk _ (I1.out _ _) (I2.out _ _)).mono ?_; rintro e w' ⟨rfl, hb⟩; simp only [World.size_alloc] at hb; obtain ⟨l1, l2, l3, l4⟩ := same_low hb)
        go_ret
        first
          | exact ⟨rfl, ((Below.refl _ _).alloc (Nat.le_refl _) _).alloc (by simp) _⟩
          | exact ⟨rfl, (((Below.refl _ _).alloc (Nat.le_refl _) _).alloc (by simp) _).trans (hb.mono (by omega))⟩
    · have hs : decide (u = u ∧ n = n' ∧ t = t' ∧ m = m' ∧ p = p' ∧ ks = ks' ∧ h = h' ∧ c = c') = false := by simp [En]
      rw [hs]
      clear hs
      go_enter Try.func117, Try.ntmps117
      go_wp2_with (go_at_call 17; refine (hk _ (I1.out _ _) (I2.out _ _)).mono ?_; rintro e w' ⟨rfl, hb⟩; simp only [World.size_alloc] at hb; obtain ⟨l1, l2, l3, l4⟩ := same_low hb)
      go_ret
      first
        | exact ⟨rfl, ((Below.refl _ _).alloc (Nat.le_refl _) _).alloc (by simp) _⟩
        | exact ⟨rfl, (((Below.refl _ _).alloc (Nat.le_refl _) _).alloc (by simp) _).trans (hb.mono (by omega))⟩
  · have hs : decide (u = u' ∧ n = n' ∧ t = t' ∧ m = m' ∧ p = p' ∧ ks = ks' ∧ h = h' ∧ c = c') = false := by simp [Eu]
    rw [hs]
    clear hs
    cases u <;> cases u' <;> first | exact absurd rfl Eu | skip
    all_goals
      go_enter Try.func117, Try.ntmps117
      go_wp2_with (go_at_call 17; refine (hk _ (I1.out _ _) (I2.out _ _)).mono ?_; rintro e w' ⟨rfl, hb⟩; simp only [World.size_alloc] at hb; obtain ⟨l1, l2, l3, l4⟩ := same_low hb)
      go_ret
      first
        | exact ⟨rfl, ((Below.refl _ _).alloc (Nat.le_refl _) _).alloc (by simp) _⟩
        | exact ⟨rfl, (((Below.refl _ _).alloc (Nat.le_refl _) _).alloc (by simp) _).trans (hb.mono (by omega))⟩

def formB (x : Nd) : Bool := if x.u then (if x.n = 0 then false else if x.h = -1 then !x.c else decide (x.p = -1)) else decide (x.t = 0 ∧ x.m = 0 ∧ x.p = -1 ∧ x.ks = [] ∧ x.h = -1 ∧ x.c = false)

theorem ints_nil (w : World) (a : Option Addr) : IntsAt w a [] := fun _ hi => absurd hi (Nat.not_lt_zero _)

theorem sameNode_unused (n n' t m p : Int) (ks : List Int) (ka : Option Addr) (kc : Nat) (h : Int) (c : Bool) (w : World) (hn : n' = n) (hbig : ks.length ≤ 9223372036854775807) (h1 : IntsAt w ka ks) :
    Calls Try.prog 117 #[.agg #[.bool false, .int .i64 n, .int .i64 t, .int .i64 m, .int .i64 p, .slice ka ks.length kc, .int .i64 h, .bool c], .agg #[.bool false, .int .i64 n', .int .i64 0, .int .i64 0, .int .i64 (-1), .slice none 0 0, .int .i64 (-1), .bool false]] w fun e w' => e = .returned (.bool (decide (t = 0 ∧ m = 0 ∧ p = -1 ∧ ks = [] ∧ h = -1 ∧ c = false))) ∧ Below w.heap.size w w' := by
  subst hn
  have H := sameNode_any false false n' n' t 0 m 0 p (-1) ks [] ka none kc 0 h (-1) c false w hbig h1 (ints_nil _ _)
  have e : decide (false = false ∧ n' = n' ∧ t = 0 ∧ m = 0 ∧ p = -1 ∧ ks = [] ∧ h = -1 ∧ c = false) = decide (t = 0 ∧ m = 0 ∧ p = -1 ∧ ks = [] ∧ h = -1 ∧ c = false) := by
    congr 1; simp
  rw [e] at H
  exact H
end Go.Proofs.Ythlpkdmmkfhleac
