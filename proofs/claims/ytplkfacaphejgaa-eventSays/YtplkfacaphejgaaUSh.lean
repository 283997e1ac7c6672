/-
  The contracts of RightUnder, isPlace, Climb (whatever it is told to visit by, with a state that lies in memory), Under.
-/
import Derived.Test.YtplkfacaphejgaaUHbSg
import Derived.Test.YtplkfacaphejgaaUSaBa
namespace Go.Proofs.Ytplkfacaphejgaa
open Go.RowKit

/-- All that lay in w lies in w' as it lay, but for the blocks of X. -/
structure Off (X : Nat → Prop) (w w' : World) : Prop where
  os : w'.os = w.os
  tape : w'.tape = w.tape
  output : w'.output = w.output
  size : w.heap.size ≤ w'.heap.size
  block : ∀ k, k < w.heap.size → ¬ X k → w'.heap[k]? = w.heap[k]?

theorem Off.refl (X : Nat → Prop) (w : World) : Off X w w := ⟨rfl, rfl, rfl, Nat.le_refl _, fun _ _ _ => rfl⟩
theorem Off.trans {X : Nat → Prop} {a b c : World} (h : Off X a b) (k : Off X b c) : Off X a c :=
  ⟨k.os.trans h.os, k.tape.trans h.tape, k.output.trans h.output, Nat.le_trans h.size k.size, fun i hi hx => (k.block i (Nat.lt_of_lt_of_le hi h.size) hx).trans (h.block i hi hx)⟩
theorem Off.of_below {X : Nat → Prop} {w w' : World} (h : Below w.heap.size w w') : Off X w w' := ⟨h.os, h.tape, h.output, h.size, fun k hk _ => h.block k hk⟩
/-- Where nothing of X lies below B. -/
theorem Off.below {X : Nat → Prop} {w w' : World} (h : Off X w w') {B : Nat} (hB : B ≤ w.heap.size) (hX : ∀ k, X k → B ≤ k) : Below B w w' :=
  ⟨h.os, h.tape, h.output, h.size, fun k hk => h.block k (by omega) (fun hx => by have := hX k hx; omega)⟩
theorem Off.cell {X : Nat → Prop} {w w' : World} (h : Off X w w') {p : Addr} (hp : p.block < w.heap.size) (hx : ¬ X p.block) : w'.cell? p = w.cell? p := by
  unfold World.cell?
  rw [h.block _ hp hx]

set_option maxHeartbeats 400000 in
theorem rightUnder_any (x : Nd) (k : Value) (w : World) :
    Calls Try.prog 50 #[.agg #[.bool x.u, .int .i64 x.n, .int .i64 x.t, .int .i64 x.m, .int .i64 x.p, k, .int .i64 x.h, .bool x.c]] w fun e w' => e = .returned (.int .i64 (if x.h = -1 then x.p else x.h)) ∧ Below w.heap.size w w' := by
  by_cases h : x.h = -1
  · rw [if_pos h, h]
    go_enter Try.func50, Try.ntmps50
    go_wp2
    go_ret
    exact ⟨rfl, (Below.refl _ _).alloc (Nat.le_refl _) _⟩
  · rw [if_neg h]
    have h1 : (x.h == -1) = false := by simp [h]
    go_enter Try.func50, Try.ntmps50
    go_wp2
    go_ret
    exact ⟨rfl, (Below.refl _ _).alloc (Nat.le_refl _) _⟩

def isPl (N : Nat) (x : Int) : Bool := decide (0 ≤ x ∧ x ≤ (N : Int) - 1)

set_option maxHeartbeats 400000 in
theorem isPlace_any (a : Option Addr) (c N : Nat) (x : Int) (w : World) (hN : N ≤ 9223372036854775807) :
    Calls Try.prog 48 #[.agg #[.slice a N c], .int .i64 x] w fun e w' => e = .returned (.bool (isPl N x)) ∧ Below w.heap.size w w' := by
  have hw := within_any x 0 ((N : Int) - 1)
  rw [show decide (0 ≤ x ∧ x ≤ (N : Int) - 1) = isPl N x from rfl] at hw
  generalize isPl N x = r at hw
  go_enter Try.func48, Try.ntmps48
  go_wp2_with (go_at_call 56; refine (hw _).mono ?_; rintro e w' ⟨rfl, rfl⟩)
  go_ret
  exact ⟨rfl, (Below.refl _ _).alloc (Nat.le_refl _) _⟩

/-- What Climb does with a state: from at on, at most so many steps. -/
def climbF {σ : Type} (S : List Nd) (up : Nd → Int) (step : σ → Int → σ × Bool) : Nat → Int → σ → σ
  | 0, _, st => st
  | f + 1, x, st => if isPl S.length x then (if (step st x).2 then climbF S up step f (up (nd S x.toNat)) (step st x).1 else (step st x).1) else st

set_option maxHeartbeats 4000000 in

set_option maxHeartbeats 2000000 in
theorem climb_any {σ : Type} (a : Option Addr) (c : Nat) (S : List Nd) (w : World) (place : Int) (KU KV : Nat) (caps : Array Value) (up : Nd → Int) (step : σ → Int → σ × Bool) (I : σ → World → Prop) (X : Nat → Prop) (st : σ)
    (hN : S.length ≤ 9223372036854775807)
    (hIS : ∀ st w1, I st w1 → NdsAt w1 a S)
    (hI : ∀ st w1 w2, I st w1 → Below w1.heap.size w1 w2 → I st w2)
    (eU : ∀ args w, (callFunc KU args).run Try.prog w = .ok (.enter KU args) w) (eV : ∀ args w, (callFunc KV args).run Try.prog w = .ok (.enter KV args) w)
    (hU : ∀ (x : Nd) (k : Value) (w1 : World), Calls Try.prog KU #[.agg #[.bool x.u, .int .i64 x.n, .int .i64 x.t, .int .i64 x.m, .int .i64 x.p, k, .int .i64 x.h, .bool x.c]] w1 fun e w2 => e = .returned (.int .i64 (up x)) ∧ Below w1.heap.size w1 w2)
    (hV : ∀ st x w1, I st w1 → w.heap.size < w1.heap.size → isPl S.length x = true → Calls Try.prog KV (#[.int .i64 x] ++ caps) w1 fun e w2 => e = .returned (.bool (step st x).2) ∧ I (step st x).1 w2 ∧ Off X w1 w2 ∧ ∀ k : Nat, w1.heap[k]? = some (.cells #[.slice a S.length c] 24 (0, 0)) → w2.heap[k]? = w1.heap[k]?)
    (h0 : I st w) :
    Calls Try.prog 49 #[.agg #[.slice a S.length c], .int .i64 place, .func (.func KU) #[] #[], .func (.func KV) #[] caps] w fun e w' => e = .returned (.tuple #[]) ∧ I (if isPl S.length place then climbF S up step S.length (up (nd S place.toNat)) st else st) w' ∧ Off X w w' := by
  have hN2 : Hid (S.length = S.length) := rfl
  have IS : Hid (∀ st w1, I st w1 → NdsAt w1 a S) := hIS
  have HI : Hid (∀ st w1 w2, I st w1 → Below w1.heap.size w1 w2 → I st w2) := hI
  have HV : Hid (∀ st x w1, I st w1 → w.heap.size < w1.heap.size → isPl S.length x = true → Calls Try.prog KV (#[.int .i64 x] ++ caps) w1 fun e w2 => e = .returned (.bool (step st x).2) ∧ I (step st x).1 w2 ∧ Off X w1 w2 ∧ ∀ k : Nat, w1.heap[k]? = some (.cells #[.slice a S.length c] 24 (0, 0)) → w2.heap[k]? = w1.heap[k]?) := hV
  have H0 : Hid (I st w) := h0
  clear hIS hI hV h0
  have hp := fun W => isPlace_any a c S.length place W hN
  generalize hn : S.length = n at *
  have HN : Hid (S.length = n) := hn
  clear hn hN2
  cases hq : isPl n place with
  | false =>
    rw [hq] at hp
    simp only [Bool.false_eq_true, if_false]
    go_enter Try.func49, Try.ntmps49
    go_wp2_with (go_at_call 48; refine (hp _).mono ?_; rintro e w' ⟨rfl, hb⟩)
    refine bodyPost_ret (v := .tuple #[]) (by simp [results, Try.results49, go_sem]) rfl ⟨rfl, ?_, ?_⟩
    · exact HI.out _ _ _ H0.out (((Below.refl _ _).alloc (Nat.le_refl _) _).trans (hb.mono (by simp)))
    · exact Off.of_below (((Below.refl _ _).alloc (Nat.le_refl _) _).trans (hb.mono (by simp)))
  | true =>
    rw [hq] at hp
    simp only [if_true]
    have hq' : 0 ≤ place ∧ place ≤ (n : Int) - 1 := of_decide_eq_true hq
    clear hq
    obtain ⟨p, rfl⟩ : ∃ p : Nat, place = (p : Int) := ⟨place.toNat, by omega⟩
    have hpn : p < n := by omega
    have hpn2 : (p : Int) < (n : Int) := by omega
    clear hq'
    simp only [Int.toNat_natCast]
    go_enter Try.func49, Try.ntmps49
    go_wp2_with (first
      | (go_at_call 48; refine (hp _).mono ?_; rintro e w1 ⟨rfl, hb1⟩; simp only [World.size_alloc] at hb1; have hB1 : Below w.heap.size w w1 := ((Below.refl _ _).alloc (Nat.le_refl _) _).trans (hb1.mono (by simp)); have lb : w1.cell? ⟨w.heap.size, 0, none⟩ = some (.slice a n c) := (hb1.cell (by simp)).trans (by go_simp); have hx1 : Hid (w1.heap[w.heap.size]? = some (.cells #[.slice a n c] 24 (0, 0))) := (hb1.block _ (by simp)).trans (heap_alloc_new _ _); obtain ⟨b, o, rfl, c0, c1, c2, c3, c4, ⟨ka, kc, c5, _⟩, c6, c7⟩ := IS.out _ _ (HI.out _ _ _ H0.out hB1) p (by rw [HN.out]; exact hpn))
      | (go_at_fn KU; refine (hU (nd S p) _ _).mono ?_; rintro e w2 ⟨rfl, hb2⟩; have lb2 : w2.cell? ⟨w.heap.size, 0, none⟩ = some (.slice (some ⟨b, o, none⟩) n c) := (hb2.cell (World.block_lt_of_cell? _ _ lb)).trans lb))
    have HX2 : Hid (w2.heap[w.heap.size]? = some (.cells #[.slice (some ⟨b, o, none⟩) n c] 24 (0, 0))) := (hb2.block _ (World.block_lt_of_cell? _ _ lb)).trans hx1.out
    clear hx1
    have hB2 : Below w.heap.size w w2 := hB1.trans (hb2.mono hB1.size)
    have hsz1 : w.heap.size < w1.heap.size := World.block_lt_of_cell? _ _ lb
    have hsz2 : w.heap.size < w2.heap.size := World.block_lt_of_cell? _ _ lb2
    have I2 : Hid (I st w2) := HI.out _ _ _ H0.out hB2
    have O2 : Hid (Off X w w2) := Off.of_below hB2
    clear c0 c1 c2 c3 c4 c5 c6 c7 hb1 hb2 lb hB1 hsz1 hp
    go_loopg [8, 23] n (fun g s8 s23 wr => ∃ (k : Nat) (x : Int) (s : σ), k ≤ n ∧ n - k ≤ g ∧ s23 = .int .i64 k ∧ s8 = .int .i64 x ∧ Hid (I s wr) ∧ Hid (Off X w wr) ∧ w.heap.size < wr.heap.size ∧ wr.cell? ⟨w.heap.size, 0, none⟩ = some (.slice (some ⟨b, o, none⟩) n c) ∧ Hid (wr.heap[w.heap.size]? = some (.cells #[.slice (some ⟨b, o, none⟩) n c] 24 (0, 0))) ∧ Hid (climbF S up step n (up (nd S p)) st = climbF S up step (n - k) x s))
    case atStart => exact ⟨0, up (nd S p), st, by omega, by omega, rfl, rfl, I2, O2, hsz2, lb2, HX2, rfl⟩
    case round =>
      obtain ⟨k, x, s, hk, hg, rfl, rfl, I3, O3, hsz3, lb3, HX3, E3⟩ := hrel
      clear I2 O2 hsz2 lb2 hB2 HX2
      by_cases hlt : k < n
      · obtain ⟨f, hf⟩ : ∃ f, n - k = f + 1 := ⟨n - k - 1, by omega⟩
        have EQ := E3.out
        rw [hf] at EQ
        simp only [climbF, HN.out] at EQ
        have hp := fun W => isPlace_any (some ⟨b, o, none⟩) c n x W hN
        cases hq : isPl n x with
        | false =>
          rw [hq] at hp EQ
          simp only [Bool.false_eq_true, if_false] at EQ
          have E4 : Hid (climbF S up step n (up (nd S p)) st = s) := EQ
          clear EQ
          go_wp2_with (go_at_call 48; refine (hp _).mono ?_; rintro e w3 ⟨rfl, hb3⟩)
          refine bodyPost_ret (v := .tuple #[]) (by simp [results, Try.results49, go_sem]) rfl ⟨rfl, ?_, ?_⟩
          · rw [E4.out]; exact HI.out _ _ _ I3.out hb3
          · exact O3.out.trans (Off.of_below hb3)
        | true =>
          rw [hq] at hp EQ
          simp only [if_true] at EQ
          have hq' : 0 ≤ x ∧ x ≤ (n : Int) - 1 := of_decide_eq_true hq
          obtain ⟨j, rfl⟩ : ∃ j : Nat, x = (j : Int) := ⟨x.toNat, by omega⟩
          have hjn : j < n := by omega
          have hjn2 : (j : Int) < (n : Int) := by omega
          clear hq'
          simp only [Int.toNat_natCast] at EQ
          have hv := fun W (hW : I s W) (hz : w.heap.size < W.heap.size) => HV.out s (j : Int) W hW hz hq
          clear hq
          generalize hst : step s (j : Int) = sr at *
          obtain ⟨s', r⟩ := sr
          dsimp only at hv EQ
          have EQ2 : Hid _ := EQ
          clear EQ hst
          cases r with
          | false =>
            have E4 : climbF S up step n (up (nd S p)) st = s' := by simpa using EQ2.out
            have E5 : Hid _ := E4
            clear E4
            go_wp2_with (first
              | (go_at_call 48; refine (hp _).mono ?_; rintro e w3 ⟨rfl, hb3⟩)
              | (go_at_fn KV; refine (hv _ (HI.out _ _ _ I3.out hb3) (Nat.lt_of_lt_of_le hsz3 hb3.size)).mono ?_; rintro e w4 ⟨rfl, I4, O4, _⟩))
            refine bodyPost_ret (v := .tuple #[]) (by simp [results, Try.results49, go_sem]) rfl ⟨rfl, ?_, ?_⟩
            · rw [E5.out]; exact I4
            · exact (O3.out.trans (Off.of_below hb3)).trans O4
          | true =>
            have E4 : climbF S up step n (up (nd S p)) st = climbF S up step f (up (nd S j)) s' := by simpa using EQ2.out
            have E5 : Hid _ := E4
            clear E4
            have fr : ∀ w3 w4 : World, Below wr.heap.size wr w3 → (∀ k : Nat, w3.heap[k]? = some (.cells #[.slice (some ⟨b, o, none⟩) n c] 24 (0, 0)) → w4.heap[k]? = w3.heap[k]?) → w4.heap[w.heap.size]? = some (.cells #[.slice (some ⟨b, o, none⟩) n c] 24 (0, 0)) := fun w3 w4 h3 h4 =>
              (h4 _ ((h3.block _ hsz3).trans HX3.out)).trans ((h3.block _ hsz3).trans HX3.out)
            have FR : Hid _ := fr
            clear fr
            go_wp2_with (first
              | (go_at_call 48; refine (hp _).mono ?_; rintro e w3 ⟨rfl, hb3⟩)
              | (go_at_fn KV; refine (hv _ (HI.out _ _ _ I3.out hb3) (Nat.lt_of_lt_of_le hsz3 hb3.size)).mono ?_; rintro e w4 ⟨rfl, I4, O4, T4⟩; have HX4 : Hid (w4.heap[w.heap.size]? = some (.cells #[.slice (some ⟨b, o, none⟩) n c] 24 (0, 0))) := FR.out w3 w4 hb3 T4; have lb4 := box_cell HX4.out; clear T4; have II4 : Hid (I s' w4) := I4; clear I4; obtain ⟨b', o', e', c0, c1, c2, c3, c4, ⟨ka, kc, c5, _⟩, c6, c7⟩ := IS.out _ _ II4.out j (by rw [HN.out]; exact hjn); cases e')
              | (go_at_fn KU; refine (hU (nd S j) _ _).mono ?_; rintro e w5 ⟨rfl, hb5⟩))
            go_roundg (n - (k + 1))
            case measure => omega
            case rel =>
              refine ⟨k + 1, up (nd S j), s', by omega, by omega, by go_num, rfl, HI.out _ _ _ II4.out hb5, (O3.out.trans (Off.of_below hb3)).trans (O4.trans (Off.of_below hb5)), ?_, (hb5.cell (World.block_lt_of_cell? _ _ lb4)).trans lb4, (hb5.block _ (World.block_lt_of_cell? _ _ lb4)).trans HX4.out, ?_⟩
              · have := World.block_lt_of_cell? _ _ lb4
                have h5 := hb5.size
                have : w.heap.size < w4.heap.size := this
                omega
              · rw [show n - (k + 1) = f by omega]; exact E5
      · have hk' : k = n := by omega
        subst hk'
        have EQ := E3.out
        rw [Nat.sub_self] at EQ
        have E4 : Hid (climbF S up step k (up (nd S p)) st = s) := EQ
        clear EQ E3
        go_wp2
        refine bodyPost_end (v := .tuple #[]) (by simp [results, Try.results49, go_sem]) rfl ⟨rfl, ?_, O3.out⟩
        rw [E4.out]; exact I3.out
end Go.Proofs.Ytplkfacaphejgaa
