/-
  The contracts of Under and someUnderItself.
-/
import Derived.Test.YtiekhgpnmcffiaaJSh
namespace Go.Proofs.Ytiekhgpnmcffiaa
open Go.RowKit

def rightUnder (x : Nd) : Int := if x.h = -1 then x.p else x.h

def underStep (above : Int) : Bool → Int → Bool × Bool := fun _ x => (decide (x = above), !decide (x = above))

/-- Under, reckoned. -/
def underB (S : List Nd) (place above : Int) : Bool := if isPl S.length place then climbF S rightUnder (underStep above) S.length (rightUnder (nd S place.toNat)) false else false

set_option maxHeartbeats 400000 in
theorem underVisit_any (x above : Int) (b1 b2 : Nat) (st : Value) (w : World) (h1 : w.cell? ⟨b1, 0, none⟩ = some (.int .i64 above)) (h2 : w.cell? ⟨b2, 0, none⟩ = some st) (hf : w.frozen? ⟨b2, 0, none⟩ = false) :
    Calls Try.prog 81 #[.int .i64 x, .pointer (some ⟨b1, 0, none⟩), .pointer (some ⟨b2, 0, none⟩)] w fun e w' => e = .returned (.bool (!decide (x = above))) ∧ w' = w.setCell ⟨b2, 0, none⟩ (.bool (decide (x = above))) := by
  have h3 : ∀ v, (w.setCell ⟨b2, 0, none⟩ v).cell? ⟨b2, 0, none⟩ = some v := fun v => World.cell?_setCell_same _ _ _ h2
  by_cases h : x = above
  · subst h
    go_enter Try.func81, Try.ntmps81
    go_wp2
    go_ret
    exact ⟨rfl, rfl⟩
  · have hd : decide (x = above) = false := decide_eq_false h
    rw [hd]
    have hq : (x == above) = false := by simp [h]
    go_enter Try.func81, Try.ntmps81
    go_wp2
    go_ret
    refine ⟨?_, ?_⟩
    · first | rfl | (simp [hq])
    · first | rfl | (rw [hq])

/-- Where Under's state lies: all that lay in w below is as it was; the one above in its box; what was found in the other one. -/
def UnderI (w : World) (a : Option Addr) (S : List Nd) (above : Int) (st : Bool) (w1 : World) : Prop :=
  Below w.heap.size w w1 ∧ NdsAt w a S ∧ w1.cell? ⟨w.heap.size + 1, 0, none⟩ = some (.int .i64 above) ∧ w1.cell? ⟨w.heap.size + 1 + 1, 0, none⟩ = some (.bool st) ∧ w1.frozen? ⟨w.heap.size + 1 + 1, 0, none⟩ = false

theorem UnderI.below {w w1 w2 : World} {a : Option Addr} {S : List Nd} {above : Int} {st : Bool} (h : UnderI w a S above st w1) (hb : Below w1.heap.size w1 w2) : UnderI w a S above st w2 := by
  obtain ⟨h1, h2, h3, h4, h5⟩ := h
  have hs := h1.size
  have l4 := World.block_lt_of_cell? _ _ h4
  exact ⟨h1.trans (hb.mono hs), h2, (hb.cell (World.block_lt_of_cell? _ _ h3)).trans h3, (hb.cell l4).trans h4, (hb.frozen l4).trans h5⟩

set_option maxHeartbeats 1000000 in
theorem under_any (a : Option Addr) (c : Nat) (S : List Nd) (place above : Int) (w : World) (hN : S.length ≤ 9223372036854775807) (hS : NdsAt w a S) :
    Calls Try.prog 69 #[.agg #[.slice a S.length c], .int .i64 place, .int .i64 above] w fun e w' => e = .returned (.bool (underB S place above)) ∧ Below w.heap.size w w' := by
  have hcl : ∀ W, UnderI w a S above false W → W.heap.size = w.heap.size + 1 + 1 + 1 → Calls Try.prog 80 #[.agg #[.slice a S.length c], .int .i64 place, .func (.func 40) #[] #[], .func (.func 81) #[] #[.pointer (some ⟨w.heap.size + 1, 0, none⟩), .pointer (some ⟨w.heap.size + 1 + 1, 0, none⟩)]] W fun e w' => e = .returned (.tuple #[]) ∧ UnderI w a S above (underB S place above) w' := fun W hW hsz =>
    (climb_any a c S W place 40 81 #[.pointer (some ⟨w.heap.size + 1, 0, none⟩), .pointer (some ⟨w.heap.size + 1 + 1, 0, none⟩)] rightUnder (underStep above) (UnderI w a S above) (fun k => k = w.heap.size + 1 + 1) false hN
      (fun st w1 h => h.2.1.below h.1)
      (fun st w1 w2 h hb => h.below hb)
      (enters_of Try.func40 (by kernel_rfl) rfl) (enters_of Try.func81 (by kernel_rfl) rfl)
      (fun x k w1 => rightUnder_any x k w1)
      (fun st x w1 h _ _ => (underVisit_any x above (w.heap.size + 1) (w.heap.size + 1 + 1) (.bool st) w1 h.2.2.1 h.2.2.2.1 h.2.2.2.2).mono (by
        rintro e w2 ⟨rfl, rfl⟩
        obtain ⟨h1, h2, h3, h4, h5⟩ := h
        have hs := h1.size
        refine ⟨rfl, ⟨h1.setCell (by show w.heap.size ≤ w.heap.size + 1 + 1; omega) _, h2, ?_, World.cell?_setCell_same _ _ _ h4, ?_⟩, ?_, fun k hk => Below.heap_setCell _ _ _ _ (fun e => ?_)⟩
        · exact (((Below.refl (w.heap.size + 1 + 1) w1).setCell (Nat.le_refl _) _).cell (by show w.heap.size + 1 < _; omega)).trans h3
        · rw [World.frozen?_setCell]; exact h5
        · exact ⟨rfl, rfl, rfl, by simp [World.setCell], fun k _ hx => Below.heap_setCell _ _ _ _ (by exact hx)⟩
        · have e' : k = w.heap.size + 1 + 1 := e
          rw [e'] at hk
          have := box_cell hk
          rw [h4] at this
          cases this))
      hW).mono (fun e w' h => ⟨h.1, by have := h.2.1; exact this⟩)
  have HC : Hid _ := hcl
  have HS : Hid (NdsAt w a S) := hS
  clear hcl hS
  generalize S.length = n at *
  generalize underB S place above = r at *
  go_enter Try.func69, Try.ntmps69
  go_wp2_with (go_at_call 80; refine (HC.out _ ⟨(((Below.refl _ _).alloc (Nat.le_refl _) _).alloc (by simp) _).alloc (by simp; omega) _, HS.out, by go_simp, by go_simp, by go_simp⟩ (by simp)).mono ?_; rintro e w1 ⟨rfl, hb, _, l1, l2, _⟩)
  go_ret
  exact ⟨rfl, hb⟩

/-- Some node stands, at some step, under itself. -/
def RingB (S : List Nd) (k : Nat) : Prop := ∃ i, i < k ∧ underB S i i = true

set_option maxHeartbeats 1000000 in
theorem someUnderItself_any (a : Option Addr) (c : Nat) (S : List Nd) (w : World) (hN : S.length ≤ 9223372036854775807) (hS : NdsAt w a S) :
    Calls Try.prog 49 #[.agg #[.slice a S.length c]] w fun e w' => e = .returned (.bool ((List.range S.length).any fun i => underB S i i)) ∧ Below w.heap.size w w' := by
  have HT : Hid (∀ i, i < S.length → underB S i i = true → ((List.range S.length).any fun i => underB S i i) = true) := fun i hi h => List.any_eq_true.2 ⟨i, List.mem_range.2 hi, h⟩
  have HF : Hid ((∀ i, i < S.length → underB S i i = false) → ((List.range S.length).any fun i => underB S i i) = false) := fun h => List.any_eq_false.2 fun i hi => by rw [h i (List.mem_range.1 hi)]; simp
  generalize ((List.range S.length).any fun i => underB S i i) = R at *
  have hu := fun (i : Nat) (W : World) (hW : NdsAt W a S) => under_any a c S i i W hN hW
  have HS : Hid (NdsAt w a S) := hS
  clear hS
  generalize hn : S.length = n at *
  have HN : Hid (S.length = n) := hn
  clear hn
  go_enter Try.func49, Try.ntmps49
  go_wp2
  go_loopg [7] n (fun g s7 wr => ∃ k : Nat, k ≤ n ∧ n - k ≤ g ∧ s7 = .int .i64 k ∧ Below w.heap.size w wr ∧ wr.cell? ⟨w.heap.size, 0, none⟩ = some (.slice a n c) ∧ Hid (∀ i, i < k → underB S i i = false))
  case atStart => exact ⟨0, by omega, by omega, rfl, (Below.refl _ _).alloc (Nat.le_refl _) _, by go_simp, (show Hid _ from fun i hi => absurd hi (Nat.not_lt_zero _))⟩
  case round =>
    obtain ⟨k, hk, hg, rfl, hb, lb, A⟩ := hrel
    have hlb := World.block_lt_of_cell? _ _ lb
    by_cases hlt : k < n
    · have hk2 := hu k wr (HS.out.below hb)
      clear hu
      cases hr : underB S k k with
      | true =>
        rw [hr] at hk2
        have Z : Hid _ := HT.out k hlt hr
        clear hr
        go_wp2_with (go_at_call 69; refine hk2.mono ?_; rintro e w1 ⟨rfl, hb1⟩)
        go_ret
        exact ⟨by rw [Z.out]; rfl, hb.trans (hb1.mono hb.size)⟩
      | false =>
        rw [hr] at hk2
        have Z : Hid _ := hr
        clear hr
        go_wp2_with (go_at_call 69; refine hk2.mono ?_; rintro e w1 ⟨rfl, hb1⟩)
        go_roundg (n - (k + 1))
        case measure => omega
        case rel =>
          refine ⟨k + 1, by omega, by omega, by go_num, hb.trans (hb1.mono hb.size), (hb1.cell hlb).trans lb, (show Hid _ from fun i hi => ?_)⟩
          by_cases e : i = k
          · rw [e]; exact Z.out
          · exact A.out i (by omega)
    · have : k = n := by omega
      subst this
      have Z : Hid _ := HF.out A.out
      clear hu
      go_wp2
      go_ret
      exact ⟨by rw [Z.out]; rfl, hb⟩
end Go.Proofs.Ytiekhgpnmcffiaa
