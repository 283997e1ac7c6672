/-
  The contracts of RightUnder, isPlace, Climb (whatever it is told to visit by, with a state that lies in memory), Under.
-/
import Derived.Test.YtgjfmepbphfjoaaGreatUSfSg
import Derived.Test.YtgjfmepbphfjoaaGreatUSaSbScBa
namespace Go.Proofs.YtgjfmepbphfjoaaGreat
open Go.RowKit

/-- All that lay in w lies in w' as it lay, but for the blocks of X. -/
structure Off (X : Nat → Prop) (w w' : World) : Prop where
  os : w'.os = w.os
  tape : w'.tape = w.tape
  output : w'.output = w.output
  size : w.heap.size ≤ w'.heap.size
  block : ∀ k, k < w.heap.size → ¬ X k → w'.heap[k]? = w.heap[k]?

theorem Off.refl (X : Nat → Prop) (w : World) : Off X w w := ⟨rfl, rfl, rfl, Nat.le_refl _, fun _ _ _ => rfl⟩
theorem Off.trans {X : Nat → Prop} {a b c : World} (h : Off X a b) (k : Off X b c) : Off X a c :=
  ⟨k.os.trans h.os, k.tape.trans h.tape, k.output.trans h.output, Nat.le_trans h.size k.size, fun i hi hx => (k.block i (Nat.lt_of_lt_of_le hi h.size) hx).trans (h.block i hi hx)⟩
theorem Off.of_below {X : Nat → Prop} {w w' : World} (h : Below w.heap.size w w') : Off X w w' := ⟨h.os, h.tape, h.output, h.size, fun k hk _ => h.block k hk⟩
/-- Where nothing of X lies below B. -/
theorem Off.below {X : Nat → Prop} {w w' : World} (h : Off X w w') {B : Nat} (hB : B ≤ w.heap.size) (hX : ∀ k, X k → B ≤ k) : Below B w w' :=
  ⟨h.os, h.tape, h.output, h.size, fun k hk => h.block k (by omega) (fun hx => by have := hX k hx; omega)⟩
theorem Off.cell {X : Nat → Prop} {w w' : World} (h : Off X w w') {p : Addr} (hp : p.block < w.heap.size) (hx : ¬ X p.block) : w'.cell? p = w.cell? p := by
  unfold World.cell?
  rw [h.block _ hp hx]

set_option maxHeartbeats 400000 in
theorem rightUnder_any (x : Nd) (k : Value) (w : World) :
    Calls Tryz.prog 103 #[.agg #[.bool x.u, .int .i64 x.n, .int .i64 x.t, .int .i64 x.m, .int .i64 x.p, k, .int .i64 x.h, .bool x.c]] w fun e w' => e = .returned (.int .i64 (if x.h = -1 then x.p else x.h)) ∧ Below w.heap.size w w' := by
  by_cases h : x.h = -1
  · rw [if_pos h, h]
    go_enter Tryz.func103, Tryz.ntmps103
    go_wp2
    go_ret
    exact ⟨rfl, (Below.refl _ _).alloc (Nat.le_refl _) _⟩
  · rw [if_neg h]
    have h1 : (x.h == -1) = false := by simp [h]
    go_enter Tryz.func103, Tryz.ntmps103
    go_wp2
    go_ret
    exact ⟨rfl, (Below.refl _ _).alloc (Nat.le_refl _) _⟩

def isPl (N : Nat) (x : Int) : Bool := decide (0 ≤ x ∧ x ≤ (N : Int) - 1)

set_option maxHeartbeats 400000 in
theorem isPlace_any (a : Option Addr) (c N : Nat) (x : Int) (w : World) (hN : N ≤ 9223372036854775807) :
    Calls Tryz.prog 74 #[.agg #[.slice a N c], .int .i64 x] w fun e w' => e = .returned (.bool (isPl N x)) ∧ Below w.heap.size w w' := by
  have hw := within_any x 0 ((N : Int) - 1)
  rw [show decide (0 ≤ x ∧ x ≤ (N : Int) - 1) = isPl N x from rfl] at hw
  generalize isPl N x = r at hw
  go_enter Tryz.func74, Tryz.ntmps74
  go_wp2_with (go_at_call 54; refine (hw _).mono ?_; rintro e w' ⟨rfl, rfl⟩)
  go_ret
  exact ⟨rfl, (Below.refl _ _).alloc (Nat.le_refl _) _⟩

/-- What Climb does with a state: from at on, at most so many steps. -/
def climbF {σ : Type} (S : List Nd) (up : Nd → Int) (step : σ → Int → σ × Bool) : Nat → Int → σ → σ
  | 0, _, st => st
  | f + 1, x, st => if isPl S.length x then (if (step st x).2 then climbF S up step f (up (nd S x.toNat)) (step st x).1 else (step st x).1) else st

set_option maxHeartbeats 4000000 in

set_option maxHeartbeats 2000000 in
theorem climb_any {σ : Type} (a : Option Addr) (c : Nat) (S : List Nd) (w : World) (place : Int) (KU KV : Nat) (caps : Array Value) (up : Nd → Int) (step : σ → Int → σ × Bool) (I : σ → World → Prop) (X : Nat → Prop) (st : σ)
    (hN : S.length ≤ 9223372036854775807)
    (hIS : ∀ st w1, I st w1 → NdsAt w1 a S)
    (hI : ∀ st w1 w2, I st w1 → Below w1.heap.size w1 w2 → I st w2)
    (eU : ∀ args w, (callFunc KU args).run Tryz.prog w = .ok (.enter KU args) w) (eV : ∀ args w, (callFunc KV args).run Tryz.prog w = .ok (.enter KV args) w)
    (hU : ∀ (x : Nd) (k : Value) (w1 : World), Calls Tryz.prog KU #[.agg #[.bool x.u, .int .i64 x.n, .int .i64 x.t, .int .i64 x.m, .int .i64 x.p, k, .int .i64 x.h, .bool x.c]] w1 fun e w2 => e = .returned (.int .i64 (up x)) ∧ Below w1.heap.size w1 w2)
    (hV : ∀ st x w1, I st w1 → w.heap.size < w1.heap.size → isPl S.length x = true → Calls Tryz.prog KV (#[.int .i64 x] ++ caps) w1 fun e w2 => e = .returned (.bool (step st x).2) ∧ I (step st x).1 w2 ∧ Off X w1 w2 ∧ ∀ k : Nat, w1.heap[k]? = some (.cells #[.slice a S.length c] 24 (0, 0)) → w2.heap[k]? = w1.heap[k]?)
    (h0 : I st w) :
    Calls Tryz.prog 119 #[.agg #[.slice a S.length c], .int .i64 place, .func (.func KU) #[] #[], .func (.func KV) #[] caps] w fun e w' => e = .returned (.tuple #[]) ∧ I (if isPl S.length place then climbF S up step S.length (up (nd S place.toNat)) st else st) w' ∧ Off X w w' := by
  have hN2 : Hid (S.length = S.length) := rfl
  have IS : Hid (∀ st w1, I st w1 → NdsAt w1 a S) := hIS
  have HI : Hid (∀ st w1 w2, I st w1 → Below w1.heap.size w1 w2 → I st w2) := hI
  have HV : Hid (∀ st x w1, I st w1 → w.heap.size < w1.heap.size → isPl S.length x = true → Calls Tryz.prog KV (#[.int .i64 x] ++ caps) w1 fun e w2 => e = .returned (.bool (step st x).2) ∧ I (step st x).1 w2 ∧ Off X w1 w2 ∧ ∀ k : Nat, w1.heap[k]? = some (.cells #[.slice a S.length c] 24 (0, 0)) → w2.heap[k]? = w1.heap[k]?) := hV
  have H0 : Hid (I st w) := h0
  clear hIS hI hV h0
  have hp := fun W => isPlace_any a c S.length place W hN
  generalize hn : S.length = n at *
  have HN : Hid (S.length = n) := hn
  clear hn hN2
  cases hq : isPl n place with
  | false =>
    rw [hq] at hp
    simp only [Bool.false_eq_true, if_false]
    go_enter Tryz.func119, Tryz.ntmps119
    go_wp2_with (go_at_call 74; refine (hp _).mono ?_; rintro e w' ⟨rfl, hb⟩)
    refine bodyPost_ret (v := .tuple #[]) (by simp [results, Tryz.results119, go_sem]) rfl ⟨rfl, ?_, ?_⟩
    · exact HI.out _ _ _ H0.out (((Below.refl _ _).alloc (Nat.le_refl _) _).trans (hb.mono (by simp)))
    · exact Off.of_below (((Below.refl _ _).alloc (Nat.le_refl _) _).trans (hb.mono (by simp)))
  | true =>
    rw [hq] at hp
    simp only [if_true]
    have hq' : 0 ≤ place ∧ place ≤ (n : Int) - 1 := of_decide_eq_true hq
    clear hq
    obtain ⟨p, rfl⟩ : ∃ p : Nat, place = (p : Int) := ⟨place.toNat, by omega⟩
    have hpn : p < n := by omega
    have hpn2 : (p : Int) < (n : Int) := by omega
    clear hq'
    simp only [Int.toNat_natCast]
    go_enter Tryz.func119, Tryz.ntmps119
    go_wp2_with (first
      | (go_at_call 74; refine (hp _).mono ?_; rintro e w1 ⟨rfl, hb1⟩; simp only [World.size_alloc] at hb1; have hB1 : Below w.heap.size w w1 := ((Below.refl _ _).alloc (Nat.le_refl _) _).trans (hb1.mono (by simp)); have lb : w1.cell? ⟨w.heap.size, 0, none⟩ = some (.slice a n c) := (hb1.cell (by simp)).trans (by go_simp); have hx1 : Hid (w1.heap[w.heap.size]? = some (.cells #[.slice a n c] 24 (0, 0))) := (hb1.block _ (by simp)).trans (heap_alloc_new _ _); obtain ⟨b, o, rfl, c0, c1, c2, c3, c4, ⟨ka, kc, c5, _⟩, c6, c7⟩ := IS.out _ _ (HI.out _ _ _ H0.out hB1) p (by rw [HN.out]; exact hpn))
      | (go_at_fn KU; refine (hU (nd S p) _ _).mono ?_; rintro e w2 ⟨rfl, hb2⟩; have lb2 : w2.cell? ⟨w.heap.size, 0, none⟩ = some (.slice (some ⟨b, o, none⟩) n c) := (hb2.cell (World.block_lt_of_cell? _ _ lb)).trans lb))
    have HX2 : Hid (w2.heap[w.heap.size]? = some (.cells #[.slice (some ⟨b, o, none⟩) n c] 24 (0, 0))) := (hb2.block _ (World.block_lt_of_cell? _ _ lb)).trans hx1.out
    clear hx1
    have hB2 : Below w.heap.size w w2 := hB1.trans (hb2.mono hB1.size)
    have hsz1 : w.heap.size < w1.heap.size := World.block_lt_of_cell? _ _ lb
    have hsz2 : w.heap.size < w2.heap.size := World.block_lt_of_cell? _ _ lb2
    have I2 : Hid (I st w2) := HI.out _ _ _ H0.out hB2
    have O2 : Hid (Off X w w2) := Off.of_below hB2
    clear c0 c1 c2 c3 c4 c5 c6 c7 hb1 hb2 lb hB1 hsz1 hp
    go_loopg [8, 23] n (fun g s8 s23 wr => ∃ (k : Nat) (x : Int) (s : σ), k ≤ n ∧ n - k ≤ g ∧ s23 = .int .i64 k ∧ s8 = .int .i64 x ∧ Hid (I s wr) ∧ Hid (Off X w wr) ∧ w.heap.size < wr.heap.size ∧ wr.cell? ⟨w.heap.size, 0, none⟩ = some (.slice (some ⟨b, o, none⟩) n c) ∧ Hid (wr.heap[w.heap.size]? = some (.cells #[.slice (some ⟨b, o, none⟩) n c] 24 (0, 0))) ∧ Hid (climbF S up step n (up (nd S p)) st = climbF S up step (n - k) x s))
    case atStart => exact ⟨0, up (nd S p), st, by omega, by omega, rfl, rfl, I2, O2, hsz2, lb2, HX2, rfl⟩
    case round =>
      obtain ⟨k, x, s, hk, hg, rfl, rfl, I3, O3, hsz3, lb3, HX3, E3⟩ := hrel
      clear I2 O2 hsz2 lb2 hB2 HX2
      by_cases hlt : k < n
      · obtain ⟨f, hf⟩ : ∃ f, n - k = f + 1 := ⟨n - k - 1, by omega⟩
        have EQ := E3.out
        rw [hf] at EQ
        simp only [climbF, HN.out] at EQ
        have hp := fun W => isPlace_any (some ⟨b, o, none⟩) c n x W hN
        cases hq : isPl n x with
        | false =>
          rw [hq] at hp EQ
          simp only [Bool.false_eq_true, if_false] at EQ
          have E4 : Hid (climbF S up step n (up (nd S p)) st = s) := EQ
          clear EQ
          go_wp2_with (go_at_call 74; refine (hp _).mono ?_; rintro e w3 ⟨rfl, hb3⟩)
          refine bodyPost_ret (v := .tuple #[]) (by simp [results, Tryz.results119, go_sem]) rfl ⟨rfl, ?_, ?_⟩
          · rw [E4.out]; exact HI.out _ _ _ I3.out hb3
          · exact O3.out.trans (Off.of_below hb3)
        | true =>
          rw [hq] at hp EQ
          simp only [if_true] at EQ
          have hq' : 0 ≤ x ∧ x ≤ (n : Int) - 1 := of_decide_eq_true hq
          obtain ⟨j, rfl⟩ : ∃ j : Nat, x = (j : Int) := ⟨x.toNat, by omega⟩
          have hjn : j < n := by omega
          have hjn2 : (j : Int) < (n : Int) := by omega
          clear hq'
          simp only [Int.toNat_natCast] at EQ
          have hv := fun W (hW : I s W) (hz : w.heap.size < W.heap.size) => HV.out s (j : Int) W hW hz hq
          clear hq
          generalize hst : step s (j : Int) = sr at *
          obtain ⟨s', r⟩ := sr
          dsimp only at hv EQ
          have EQ2 : Hid _ := EQ
          clear EQ hst
          cases r with
          | false =>
            have E4 : climbF S up step n (up (nd S p)) st = s' := by simpa using EQ2.out
            have E5 : Hid _ := E4
            clear E4
            go_wp2_with (first
              | (go_at_call 74; refine (hp _).mono ?_; rintro e w3 ⟨rfl, hb3⟩)
              | (go_at_fn KV; refine (hv _ (HI.out _ _ _ I3.out hb3) (Nat.lt_of_lt_of_le hsz3 hb3.size)).mono ?_; rintro e w4 ⟨rfl, I4, O4, _⟩))
            refine bodyPost_ret (v := .tuple #[]) (by simp [results, Tryz.results119, go_sem]) rfl ⟨rfl, ?_, ?_⟩
            · rw [E5.out]; exact I4
            · exact (O3.out.trans (Off.of_below hb3)).trans O4
          | true =>
            have E4 : climbF S up step n (up (nd S p)) st = climbF S up step f (up (nd S j)) s' := by simpa using EQ2.out
            have E5 : Hid _ := E4
            clear E4
            have fr : ∀ w3 w4 : World, Below wr.heap.size wr w3 → (∀ k : Nat, w3.heap[k]? = some (.cells #[.slice (some ⟨b, o, none⟩) n c] 24 (0, 0)) → w4.heap[k]? = w3.heap[k]?) → w4.heap[w.heap.size]? = some (.cells #[.slice (some ⟨b, o, none⟩) n c] 24 (0, 0)) := fun w3 w4 h3 h4 =>
              (h4 _ ((h3.block _ hsz3).trans HX3.out)).trans ((h3.block _ hsz3).trans HX3.out)
            have FR : Hid _ := fr
            clear fr
            go_wp2_with (first
              | (go_at_call 74; refine (hp _).mono ?_; rintro e w3 ⟨rfl, hb3⟩)
              | (go_at_fn KV; refine (hv _ (HI.out _ _ _ I3.out hb3) (Nat.lt_of_lt_of_le hsz3 hb3.size)).mono ?_; rintro e w4 ⟨rfl, I4, O4, T4⟩; have HX4 : Hid (w4.heap[w.heap.size]? = some (.cells #[.slice (some ⟨b, o, none⟩) n c] 24 (0, 0))) := FR.out w3 w4 hb3 T4; have lb4 := box_cell HX4.out; clear T4; have II4 : Hid (I s' w4) := I4; clear I4; obtain ⟨b', o', e', c0, c1, c2, c3, c4, ⟨ka, kc, c5, _⟩, c6, c7⟩ := IS.out _ _ II4.out j (by rw [HN.out]; exact hjn); cases e')
              | (go_at_fn KU; refine (hU (nd S j) _ _).mono ?_; rintro e w5 ⟨rfl, hb5⟩))
            go_roundg (n - (k + 1))
            case measure => omega
            case rel =>
              refine ⟨k + 1, up (nd S j), s', by omega, by omega, by go_num, rfl, HI.out _ _ _ II4.out hb5, (O3.out.trans (Off.of_below hb3)).trans (O4.trans (Off.of_below hb5)), ?_, (hb5.cell (World.block_lt_of_cell? _ _ lb4)).trans lb4, (hb5.block _ (World.block_lt_of_cell? _ _ lb4)).trans HX4.out, ?_⟩
              · have := World.block_lt_of_cell? _ _ lb4
                have h5 := hb5.size
                have : w.heap.size < w4.heap.size := this
                omega
              · rw [show n - (k + 1) = f by omega]; exact E5
      · have hk' : k = n := by omega
        subst hk'
        have EQ := E3.out
        rw [Nat.sub_self] at EQ
        have E4 : Hid (climbF S up step k (up (nd S p)) st = s) := EQ
        clear EQ E3
        go_wp2
        refine bodyPost_end (v := .tuple #[]) (by simp [results, Tryz.results119, go_sem]) rfl ⟨rfl, ?_, O3.out⟩
        rw [E4.out]; exact I3.out
end Go.Proofs.YtgjfmepbphfjoaaGreat

namespace Go.Proofs.YtgjfmepbphfjoaaGreat
open Go.RowKit

def rightUnder (x : Nd) : Int := if x.h = -1 then x.p else x.h

def underStep (above : Int) : Bool → Int → Bool × Bool := fun _ x => (decide (x = above), !decide (x = above))

/-- Under, reckoned. -/
def underB (S : List Nd) (place above : Int) : Bool := if isPl S.length place then climbF S rightUnder (underStep above) S.length (rightUnder (nd S place.toNat)) false else false

set_option maxHeartbeats 400000 in
theorem underVisit_any (x above : Int) (b1 b2 : Nat) (st : Value) (w : World) (h1 : w.cell? ⟨b1, 0, none⟩ = some (.int .i64 above)) (h2 : w.cell? ⟨b2, 0, none⟩ = some st) (hf : w.frozen? ⟨b2, 0, none⟩ = false) :
    Calls Tryz.prog 120 #[.int .i64 x, .pointer (some ⟨b1, 0, none⟩), .pointer (some ⟨b2, 0, none⟩)] w fun e w' => e = .returned (.bool (!decide (x = above))) ∧ w' = w.setCell ⟨b2, 0, none⟩ (.bool (decide (x = above))) := by
  have h3 : ∀ v, (w.setCell ⟨b2, 0, none⟩ v).cell? ⟨b2, 0, none⟩ = some v := fun v => World.cell?_setCell_same _ _ _ h2
  by_cases h : x = above
  · subst h
    go_enter Tryz.func120, Tryz.ntmps120
    go_wp2
    go_ret
    exact ⟨rfl, rfl⟩
  · have hd : decide (x = above) = false := decide_eq_false h
    rw [hd]
    have hq : (x == above) = false := by simp [h]
    go_enter Tryz.func120, Tryz.ntmps120
    go_wp2
    go_ret
    refine ⟨?_, ?_⟩
    · first | rfl | (simp [hq])
    · first | rfl | (rw [hq])

/-- Where Under's state lies: all that lay in w below is as it was; the one above in its box; what was found in the other one. -/
def UnderI (w : World) (a : Option Addr) (S : List Nd) (above : Int) (st : Bool) (w1 : World) : Prop :=
  Below w.heap.size w w1 ∧ NdsAt w a S ∧ w1.cell? ⟨w.heap.size + 1, 0, none⟩ = some (.int .i64 above) ∧ w1.cell? ⟨w.heap.size + 1 + 1, 0, none⟩ = some (.bool st) ∧ w1.frozen? ⟨w.heap.size + 1 + 1, 0, none⟩ = false

theorem UnderI.below {w w1 w2 : World} {a : Option Addr} {S : List Nd} {above : Int} {st : Bool} (h : UnderI w a S above st w1) (hb : Below w1.heap.size w1 w2) : UnderI w a S above st w2 := by
  obtain ⟨h1, h2, h3, h4, h5⟩ := h
  have hs := h1.size
  have l4 := World.block_lt_of_cell? _ _ h4
  exact ⟨h1.trans (hb.mono hs), h2, (hb.cell (World.block_lt_of_cell? _ _ h3)).trans h3, (hb.cell l4).trans h4, (hb.frozen l4).trans h5⟩

set_option maxHeartbeats 1000000 in
theorem under_any (a : Option Addr) (c : Nat) (S : List Nd) (place above : Int) (w : World) (hN : S.length ≤ 9223372036854775807) (hS : NdsAt w a S) :
    Calls Tryz.prog 98 #[.agg #[.slice a S.length c], .int .i64 place, .int .i64 above] w fun e w' => e = .returned (.bool (underB S place above)) ∧ Below w.heap.size w w' := by
  have hcl : ∀ W, UnderI w a S above false W → W.heap.size = w.heap.size + 1 + 1 + 1 → Calls Tryz.prog 119 #[.agg #[.slice a S.length c], .int .i64 place, .func (.func 103) #[] #[], .func (.func 120) #[] #[.pointer (some ⟨w.heap.size + 1, 0, none⟩), .pointer (some ⟨w.heap.size + 1 + 1, 0, none⟩)]] W fun e w' => e = .returned (.tuple #[]) ∧ UnderI w a S above (underB S place above) w' := fun W hW hsz =>
    (climb_any a c S W place 103 120 #[.pointer (some ⟨w.heap.size + 1, 0, none⟩), .pointer (some ⟨w.heap.size + 1 + 1, 0, none⟩)] rightUnder (underStep above) (UnderI w a S above) (fun k => k = w.heap.size + 1 + 1) false hN
      (fun st w1 h => h.2.1.below h.1)
      (fun st w1 w2 h hb => h.below hb)
      (enters_of Tryz.func103 (by kernel_rfl) rfl) (enters_of Tryz.func120 (by kernel_rfl) rfl)
      (fun x k w1 => rightUnder_any x k w1)
      (fun st x w1 h _ _ => (underVisit_any x above (w.heap.size + 1) (w.heap.size + 1 + 1) (.bool st) w1 h.2.2.1 h.2.2.2.1 h.2.2.2.2).mono (by
        rintro e w2 ⟨rfl, rfl⟩
        obtain ⟨h1, h2, h3, h4, h5⟩ := h
        have hs := h1.size
        refine ⟨rfl, ⟨h1.setCell (by show w.heap.size ≤ w.heap.size + 1 + 1; omega) _, h2, ?_, World.cell?_setCell_same _ _ _ h4, ?_⟩, ?_, fun k hk => Below.heap_setCell _ _ _ _ (fun e => ?_)⟩
        · exact (((Below.refl (w.heap.size + 1 + 1) w1).setCell (Nat.le_refl _) _).cell (by show w.heap.size + 1 < _; omega)).trans h3
        · rw [World.frozen?_setCell]; exact h5
        · exact ⟨rfl, rfl, rfl, by simp [World.setCell], fun k _ hx => Below.heap_setCell _ _ _ _ (by exact hx)⟩
        · have e' : k = w.heap.size + 1 + 1 := e
          rw [e'] at hk
          have := box_cell hk
          rw [h4] at this
          cases this))
      hW).mono (fun e w' h => ⟨h.1, by have := h.2.1; exact this⟩)
  have HC : Hid _ := hcl
  have HS : Hid (NdsAt w a S) := hS
  clear hcl hS
  generalize S.length = n at *
  generalize underB S place above = r at *
  go_enter Tryz.func98, Tryz.ntmps98
  go_wp2_with (go_at_call 119; refine (HC.out _ ⟨(((Below.refl _ _).alloc (Nat.le_refl _) _).alloc (by simp) _).alloc (by simp; omega) _, HS.out, by go_simp, by go_simp, by go_simp⟩ (by simp)).mono ?_; rintro e w1 ⟨rfl, hb, _, l1, l2, _⟩)
  go_ret
  exact ⟨rfl, hb⟩

/-- Some node stands, at some step, under itself. -/
def RingB (S : List Nd) (k : Nat) : Prop := ∃ i, i < k ∧ underB S i i = true

set_option maxHeartbeats 1000000 in
theorem someUnderItself_any (a : Option Addr) (c : Nat) (S : List Nd) (w : World) (hN : S.length ≤ 9223372036854775807) (hS : NdsAt w a S) :
    Calls Tryz.prog 52 #[.agg #[.slice a S.length c]] w fun e w' => e = .returned (.bool ((List.range S.length).any fun i => underB S i i)) ∧ Below w.heap.size w w' := by
  have HT : Hid (∀ i, i < S.length → underB S i i = true → ((List.range S.length).any fun i => underB S i i) = true) := fun i hi h => List.any_eq_true.2 ⟨i, List.mem_range.2 hi, h⟩
  have HF : Hid ((∀ i, i < S.length → underB S i i = false) → ((List.range S.length).any fun i => underB S i i) = false) := fun h => List.any_eq_false.2 fun i hi => by rw [h i (List.mem_range.1 hi)]; simp
  generalize ((List.range S.length).any fun i => underB S i i) = R at *
  have hu := fun (i : Nat) (W : World) (hW : NdsAt W a S) => under_any a c S i i W hN hW
  have HS : Hid (NdsAt w a S) := hS
  clear hS
  generalize hn : S.length = n at *
  have HN : Hid (S.length = n) := hn
  clear hn
  go_enter Tryz.func52, Tryz.ntmps52
  go_wp2
  go_loopg [7] n (fun g s7 wr => ∃ k : Nat, k ≤ n ∧ n - k ≤ g ∧ s7 = .int .i64 k ∧ Below w.heap.size w wr ∧ wr.cell? ⟨w.heap.size, 0, none⟩ = some (.slice a n c) ∧ Hid (∀ i, i < k → underB S i i = false))
  case atStart => exact ⟨0, by omega, by omega, rfl, (Below.refl _ _).alloc (Nat.le_refl _) _, by go_simp, (show Hid _ from fun i hi => absurd hi (Nat.not_lt_zero _))⟩
  case round =>
    obtain ⟨k, hk, hg, rfl, hb, lb, A⟩ := hrel
    have hlb := World.block_lt_of_cell? _ _ lb
    by_cases hlt : k < n
    · have hk2 := hu k wr (HS.out.below hb)
      clear hu
      cases hr : underB S k k with
      | true =>
        rw [hr] at hk2
        have Z : Hid _ := HT.out k hlt hr
        clear hr
        go_wp2_with (go_at_call 98; refine hk2.mono ?_; rintro e w1 ⟨rfl, hb1⟩)
        go_ret
        exact ⟨by rw [Z.out]; rfl, hb.trans (hb1.mono hb.size)⟩
      | false =>
        rw [hr] at hk2
        have Z : Hid _ := hr
        clear hr
        go_wp2_with (go_at_call 98; refine hk2.mono ?_; rintro e w1 ⟨rfl, hb1⟩)
        go_roundg (n - (k + 1))
        case measure => omega
        case rel =>
          refine ⟨k + 1, by omega, by omega, by go_num, hb.trans (hb1.mono hb.size), (hb1.cell hlb).trans lb, (show Hid _ from fun i hi => ?_)⟩
          by_cases e : i = k
          · rw [e]; exact Z.out
          · exact A.out i (by omega)
    · have : k = n := by omega
      subst this
      have Z : Hid _ := HF.out A.out
      clear hu
      go_wp2
      go_ret
      exact ⟨by rw [Z.out]; rfl, hb⟩
end Go.Proofs.YtgjfmepbphfjoaaGreat

namespace Go.Proofs.YtgjfmepbphfjoaaGreat
open Go.RowKit

def firstE (N : Int) : List Nd → Int
  | [] => 0
  | x :: r => if nodeE N x = 0 then firstE N r else nodeE N x

def ringB (S : List Nd) : Bool := (List.range S.length).any fun i => underB S i i
def treeE (S : List Nd) : Int := if decide (KidsOk S) then (if decide (HostU S S.length) then (if ringB S then 6 else 0) else 6) else 6
def checkE (S : List Nd) : Int := if 24 < S.length then 1 else if firstE S.length S = 0 then treeE S else firstE S.length S

theorem drop_nd {S : List Nd} {k : Nat} (h : k < S.length) : S.drop k = nd S k :: S.drop (k + 1) := by
  rw [nd_elem h]; exact List.drop_eq_getElem_cons h

theorem names_of {N : Int} {x : Nd} (h : nodeE N x = 0) : namesB N x = true := by
  unfold nodeE at h
  split at h
  · split at h
    · assumption
    · omega
  · omega

theorem names_ks {N : Int} {x : Nd} (h : namesB N x = true) : (∀ y ∈ x.ks, -1 ≤ y ∧ y < N) ∧ (-1 ≤ x.h ∧ x.h < N) ∧ (-1 ≤ x.p ∧ x.p < N) := by
  unfold namesB okPl at h
  simp only [Bool.and_eq_true, decide_eq_true_eq, List.any_eq_false, Bool.not_eq_eq_eq_not, Bool.not_true, decide_eq_false_iff_not, Decidable.not_not] at h
  refine ⟨fun y hy => ?_, ⟨h.2.1.1, by omega⟩, ⟨h.1.1, by omega⟩⟩
  have := h.2.2 y hy
  omega

theorem store_low {w w1 : World} {v : Value} (hb : Below (w.heap.size + 1) (w.alloc (.cells #[v] 24)) w1) : w1.cell? ⟨w.heap.size, 0, none⟩ = some v :=
  (hb.cell (by simp)).trans (by go_simp)

set_option maxHeartbeats 4000000 in
theorem check_any (a : Option Addr) (c : Nat) (S : List Nd) (w : World) (hN : S.length ≤ 9223372036854775807) (hB : Big S) (hS : NdsAt w a S) :
    Calls Tryz.prog 20 #[.agg #[.slice a S.length c]] w fun e w' => e = .returned (.int .i64 (checkE S)) ∧ Below w.heap.size w w' := by
  unfold checkE
  by_cases hbig : 24 < S.length
  · rw [if_pos hbig]
    generalize S.length = n at *
    clear hS hB
    have hbig2 : (24 : Int) < (n : Int) := by omega
    go_enter Tryz.func20, Tryz.ntmps20
    go_wp2
    go_ret
    exact ⟨rfl, (Below.refl _ _).alloc (Nat.le_refl _) _⟩
  · rw [if_neg hbig]
    have HS : Hid (NdsAt w a S) := hS
    have HB : Hid (Big S) := hB
    have hcn := fun (i : Nat) (hi : i < S.length) (ka : Option Addr) (kc : Nat) (W : World) (hW : IntsAt W ka (nd S i).ks) => checkNode_any (nd S i) ka kc S.length W ⟨by omega, by omega⟩ (hB i hi) hW
    have HCN : Hid _ := hcn
    have htree : (∀ i, i < S.length → nodeE S.length (nd S i) = 0) → ∀ W, NdsAt W a S → Calls Tryz.prog 50 #[.slice a S.length c] W (fun e w' => e = .returned (.bool (decide (KidsOk S))) ∧ Below W.heap.size W w') ∧ Calls Tryz.prog 51 #[.slice a S.length c] W (fun e w' => e = .returned (.bool (decide (HostU S S.length))) ∧ Below W.heap.size W w') ∧ Calls Tryz.prog 52 #[.agg #[.slice a S.length c]] W (fun e w' => e = .returned (.bool (ringB S)) ∧ Below W.heap.size W w') := fun h W hW =>
      ⟨kidsFit_b a c S W (by omega) hB (fun i hi x hx => (names_ks (names_of (h i hi))).1 x hx) hW, hostsFit_any a c S W (by omega) (fun i hi => (names_ks (names_of (h i hi))).2.1) hW, someUnderItself_any a c S W hN hW⟩
    have HTREE : Hid _ := htree
    clear hS hB hcn htree
    have R0 : Hid (firstE S.length S = 0 → (if firstE S.length S = 0 then treeE S else firstE S.length S) = if decide (KidsOk S) then (if decide (HostU S S.length) then (if ringB S then 6 else 0) else 6) else 6) := fun h => by rw [if_pos h]; rfl
    have R1 : Hid (firstE S.length S ≠ 0 → (if firstE S.length S = 0 then treeE S else firstE S.length S) = firstE S.length S) := fun h => if_neg h
    generalize (if firstE S.length S = 0 then treeE S else firstE S.length S) = RES at *
    have E0 : Hid (firstE S.length S = firstE S.length (S.drop 0)) := rfl
    have DR : Hid (∀ k, k < S.length → S.drop k = nd S k :: S.drop (k + 1)) := fun k hk => drop_nd hk
    have DN : Hid (S.drop S.length = []) := List.drop_length
    generalize decide (KidsOk S) = b1 at *
    generalize decide (HostU S S.length) = b2 at *
    generalize ringB S = b3 at *
    generalize hn : S.length = n at *
    have HN : Hid (S.length = n) := hn
    clear hn
    have hbig2 : ¬ (24 : Int) < (n : Int) := by omega
    go_enter Tryz.func20, Tryz.ntmps20
    go_wp2
    go_loopg [13] n (fun g s13 wr => ∃ k : Nat, k ≤ n ∧ n - k ≤ g ∧ s13 = .int .i64 k ∧ Below w.heap.size w wr ∧ wr.cell? ⟨w.heap.size, 0, none⟩ = some (.slice a n c) ∧ Hid (firstE n S = firstE n (S.drop k)) ∧ Hid (∀ i, i < k → nodeE n (nd S i) = 0))
    case atStart => exact ⟨0, by omega, by omega, rfl, (Below.refl _ _).alloc (Nat.le_refl _) _, by go_simp, E0, (show Hid _ from fun i hi => absurd hi (Nat.not_lt_zero _))⟩
    case round =>
      obtain ⟨k, hk, hg, rfl, hb, lb, A, U⟩ := hrel
      have hlb := World.block_lt_of_cell? _ _ lb
      by_cases hlt : k < n
      · obtain ⟨b, o, rfl, c0, c1, c2, c3, c4, ⟨ka, kc, c5, hks⟩, c6, c7⟩ := (HS.out.below hb) k (by rw [HN.out]; exact hlt)
        have hbw : b < wr.heap.size := World.block_lt_of_cell? wr ⟨b, o + k * 8, none⟩ c0
        have hn0 := fun W hW => HCN.out k hlt ka kc W hW
        have hks2 : ∀ o1, IntsAt (wr.alloc o1) ka (nd S k).ks := fun o1 => hks.below ((Below.refl _ _).alloc (Nat.le_refl _) _)
        have KS : Hid _ := hks2
        have EQ := A.out
        rw [DR.out k hlt] at EQ
        simp only [firstE] at EQ
        clear hks hks2
        generalize hE : nodeE n (nd S k) = ev at *
        by_cases hz : ev = 0
        · subst hz
          rw [if_pos rfl] at EQ
          have EQ2 : Hid _ := EQ
          have NE : Hid _ := hE
          clear EQ hE
          generalize hx : nd S k = x at *
          have HX : Hid _ := hx
          clear hx
          go_wp2_with (go_at_call 49; refine (hn0 _ (KS.out _)).mono ?_; rintro e w1 ⟨rfl, hb1⟩)
          go_roundg (n - (k + 1))
          case measure => omega
          case rel =>
            have hb2 : Below wr.heap.size wr w1 := ((Below.refl _ _).alloc (Nat.le_refl _) _).trans (hb1.mono (by simp))
            refine ⟨k + 1, by omega, by omega, by go_num, hb.trans (hb2.mono hb.size), (hb2.cell hlb).trans lb, EQ2, (show Hid _ from fun i hi => ?_)⟩
            by_cases e : i = k
            · rw [e, HX.out]; exact NE.out
            · exact U.out i (by omega)
        · rw [if_neg hz] at EQ
          have hz2 : (ev == 0) = false := by simp [hz]
          have EQ2 : Hid _ := EQ
          clear EQ hE
          generalize hx : nd S k = x at *
          have HX : Hid _ := hx
          clear hx
          go_wp2_with (go_at_call 49; refine (hn0 _ (KS.out _)).mono ?_; rintro e w1 ⟨rfl, hb1⟩)
          go_ret
          have hb2 : Below wr.heap.size wr w1 := ((Below.refl _ _).alloc (Nat.le_refl _) _).trans (hb1.mono (by simp))
          refine ⟨?_, hb.trans (hb2.mono hb.size)⟩
          rw [R1.out (by rw [EQ2.out]; exact hz), EQ2.out]
          rfl
      · have : k = n := by omega
        subst this
        have EQ := A.out
        have hdn : S.drop k = [] := by have := DN.out; exact this
        rw [hdn] at EQ
        simp only [firstE] at EQ
        have EQ2 : Hid _ := EQ
        have T : Hid _ := HTREE.out U.out
        clear EQ hdn
        have R2 := R0.out EQ2.out
        clear R0 R1
        cases b1
        rotate_left
        cases b2
        rotate_left
        cases b3
        all_goals
          simp only [if_true, Bool.false_eq_true, if_false] at R2
          subst R2
          go_wp2_with (first
            | (go_at_call 50; refine ((T.out _ (HS.out.below hb)).1).mono ?_; rintro e w1 ⟨rfl, hb1⟩; have B1 := hb.trans (hb1.mono hb.size); have lb1 := (hb1.cell hlb).trans lb)
            | (go_at_call 51; refine ((T.out _ (HS.out.below B1)).2.1).mono ?_; rintro e w2 ⟨rfl, hb2⟩; have B2 := B1.trans (hb2.mono B1.size); have lb2 := (hb2.cell (World.block_lt_of_cell? _ _ lb1)).trans lb1)
            | (go_at_call 52; refine ((T.out _ (HS.out.below B2)).2.2).mono ?_; rintro e w3 ⟨rfl, hb3⟩; have B3 := B2.trans (hb3.mono B2.size)))
        all_goals go_ret
        all_goals first
          | exact ⟨rfl, B3⟩
          | exact ⟨rfl, B2⟩
          | exact ⟨rfl, B1⟩
end Go.Proofs.YtgjfmepbphfjoaaGreat
