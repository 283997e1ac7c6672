/-
  The contract of pathFrom.
-/
import Derived.Test.YtplkfacaphejgaaUZa
import Derived.Test.YtplkfacaphejgaaUZpRdRi
namespace Go.Proofs.Ytplkfacaphejgaa
open Go.RowKit

set_option maxHeartbeats 2000000 in
theorem climb_cnt {σ : Type} (a : Option Addr) (c : Nat) (S : List Nd) (w : World) (place : Int) (KU KV : Nat) (caps : Array Value) (up : Nd → Int) (step : σ → Int → σ × Bool) (I : Nat → σ → World → Prop) (X : Nat → Prop) (st : σ)
    (hN : S.length ≤ 9223372036854775807)
    (hIS : ∀ k st w1, I k st w1 → NdsAt w1 a S)
    (hI : ∀ k st w1 w2, I k st w1 → Below w1.heap.size w1 w2 → I k st w2)
    (eU : ∀ args w, (callFunc KU args).run Try.prog w = .ok (.enter KU args) w) (eV : ∀ args w, (callFunc KV args).run Try.prog w = .ok (.enter KV args) w)
    (hU : ∀ (x : Nd) (k : Value) (w1 : World), Calls Try.prog KU #[.agg #[.bool x.u, .int .i64 x.n, .int .i64 x.t, .int .i64 x.m, .int .i64 x.p, k, .int .i64 x.h, .bool x.c]] w1 fun e w2 => e = .returned (.int .i64 (up x)) ∧ Below w1.heap.size w1 w2)
    (hV : ∀ i st x w1, i < S.length → I i st w1 → w.heap.size < w1.heap.size → isPl S.length x = true → Calls Try.prog KV (#[.int .i64 x] ++ caps) w1 fun e w2 => e = .returned (.bool (step st x).2) ∧ I (i + 1) (step st x).1 w2 ∧ Off X w1 w2 ∧ ∀ k : Nat, w1.heap[k]? = some (.cells #[.slice a S.length c] 24 (0, 0)) → w2.heap[k]? = w1.heap[k]?)
    (h0 : I 0 st w) :
    Calls Try.prog 49 #[.agg #[.slice a S.length c], .int .i64 place, .func (.func KU) #[] #[], .func (.func KV) #[] caps] w fun e w' => e = .returned (.tuple #[]) ∧ (∃ i, i ≤ S.length ∧ I i (if isPl S.length place then climbF S up step S.length (up (nd S place.toNat)) st else st) w') ∧ Off X w w' := by
  have hN2 : Hid (S.length = S.length) := rfl
  have IS : Hid (∀ k st w1, I k st w1 → NdsAt w1 a S) := hIS
  have HI : Hid (∀ k st w1 w2, I k st w1 → Below w1.heap.size w1 w2 → I k st w2) := hI
  have HV : Hid (∀ i st x w1, i < S.length → I i st w1 → w.heap.size < w1.heap.size → isPl S.length x = true → Calls Try.prog KV (#[.int .i64 x] ++ caps) w1 fun e w2 => e = .returned (.bool (step st x).2) ∧ I (i + 1) (step st x).1 w2 ∧ Off X w1 w2 ∧ ∀ k : Nat, w1.heap[k]? = some (.cells #[.slice a S.length c] 24 (0, 0)) → w2.heap[k]? = w1.heap[k]?) := hV
  have H0 : Hid (I 0 st w) := h0
  clear hIS hI hV h0
  have hp := fun W => isPlace_any a c S.length place W hN
  generalize hn : S.length = n at *
  have HN : Hid (S.length = n) := hn
  clear hn hN2
  cases hq : isPl n place with
  | false =>
    rw [hq] at hp
    simp only [Bool.false_eq_true, if_false]
    go_enter Try.func49, Try.ntmps49
    go_wp2_with (go_at_call 48; refine (hp _).mono ?_; rintro e w' ⟨rfl, hb⟩)
    refine bodyPost_ret (v := .tuple #[]) (by simp [results, Try.results49, go_sem]) rfl ⟨rfl, ?_, ?_⟩
    · exact ⟨0, Nat.zero_le _, HI.out _ _ _ _ H0.out (((Below.refl _ _).alloc (Nat.le_refl _) _).trans (hb.mono (by simp)))⟩
    · exact Off.of_below (((Below.refl _ _).alloc (Nat.le_refl _) _).trans (hb.mono (by simp)))
  | true =>
    rw [hq] at hp
    simp only [if_true]
    have hq' : 0 ≤ place ∧ place ≤ (n : Int) - 1 := of_decide_eq_true hq
    clear hq
    obtain ⟨p, rfl⟩ : ∃ p : Nat, place = (p : Int) := ⟨place.toNat, by omega⟩
    have hpn : p < n := by omega
    have hpn2 : (p : Int) < (n : Int) := by omega
    clear hq'
    simp only [Int.toNat_natCast]
    go_enter Try.func49, Try.ntmps49
    go_wp2_with (first
      | (go_at_call 48; refine (hp _).mono ?_; rintro e w1 ⟨rfl, hb1⟩; simp only [World.size_alloc] at hb1; have hB1 : Below w.heap.size w w1 := ((Below.refl _ _).alloc (Nat.le_refl _) _).trans (hb1.mono (by simp)); have lb : w1.cell? ⟨w.heap.size, 0, none⟩ = some (.slice a n c) := (hb1.cell (by simp)).trans (by go_simp); have hx1 : Hid (w1.heap[w.heap.size]? = some (.cells #[.slice a n c] 24 (0, 0))) := (hb1.block _ (by simp)).trans (heap_alloc_new _ _); obtain ⟨b, o, rfl, c0, c1, c2, c3, c4, ⟨ka, kc, c5, _⟩, c6, c7⟩ := IS.out _ _ _ (HI.out _ _ _ _ H0.out hB1) p (by rw [HN.out]; exact hpn))
      | (go_at_fn KU; refine (hU (nd S p) _ _).mono ?_; rintro e w2 ⟨rfl, hb2⟩; have lb2 : w2.cell? ⟨w.heap.size, 0, none⟩ = some (.slice (some ⟨b, o, none⟩) n c) := (hb2.cell (World.block_lt_of_cell? _ _ lb)).trans lb))
    have HX2 : Hid (w2.heap[w.heap.size]? = some (.cells #[.slice (some ⟨b, o, none⟩) n c] 24 (0, 0))) := (hb2.block _ (World.block_lt_of_cell? _ _ lb)).trans hx1.out
    clear hx1
    have hB2 : Below w.heap.size w w2 := hB1.trans (hb2.mono hB1.size)
    have hsz1 : w.heap.size < w1.heap.size := World.block_lt_of_cell? _ _ lb
    have hsz2 : w.heap.size < w2.heap.size := World.block_lt_of_cell? _ _ lb2
    have I2 : Hid (I 0 st w2) := HI.out _ _ _ _ H0.out hB2
    have O2 : Hid (Off X w w2) := Off.of_below hB2
    clear c0 c1 c2 c3 c4 c5 c6 c7 hb1 hb2 lb hB1 hsz1 hp
    go_loopg [8, 23] n (fun g s8 s23 wr => ∃ (k : Nat) (x : Int) (s : σ), k ≤ n ∧ n - k ≤ g ∧ s23 = .int .i64 k ∧ s8 = .int .i64 x ∧ Hid (I k s wr) ∧ Hid (Off X w wr) ∧ w.heap.size < wr.heap.size ∧ wr.cell? ⟨w.heap.size, 0, none⟩ = some (.slice (some ⟨b, o, none⟩) n c) ∧ Hid (wr.heap[w.heap.size]? = some (.cells #[.slice (some ⟨b, o, none⟩) n c] 24 (0, 0))) ∧ Hid (climbF S up step n (up (nd S p)) st = climbF S up step (n - k) x s))
    case atStart => exact ⟨0, up (nd S p), st, by omega, by omega, rfl, rfl, I2, O2, hsz2, lb2, HX2, rfl⟩
    case round =>
      obtain ⟨k, x, s, hk, hg, rfl, rfl, I3, O3, hsz3, lb3, HX3, E3⟩ := hrel
      clear I2 O2 hsz2 lb2 hB2 HX2
      by_cases hlt : k < n
      · obtain ⟨f, hf⟩ : ∃ f, n - k = f + 1 := ⟨n - k - 1, by omega⟩
        have EQ := E3.out
        rw [hf] at EQ
        simp only [climbF, HN.out] at EQ
        have hp := fun W => isPlace_any (some ⟨b, o, none⟩) c n x W hN
        cases hq : isPl n x with
        | false =>
          rw [hq] at hp EQ
          simp only [Bool.false_eq_true, if_false] at EQ
          have E4 : Hid (climbF S up step n (up (nd S p)) st = s) := EQ
          clear EQ
          go_wp2_with (go_at_call 48; refine (hp _).mono ?_; rintro e w3 ⟨rfl, hb3⟩)
          refine bodyPost_ret (v := .tuple #[]) (by simp [results, Try.results49, go_sem]) rfl ⟨rfl, ?_, ?_⟩
          · rw [E4.out]; exact ⟨k, by omega, HI.out _ _ _ _ I3.out hb3⟩
          · exact O3.out.trans (Off.of_below hb3)
        | true =>
          rw [hq] at hp EQ
          simp only [if_true] at EQ
          have hq' : 0 ≤ x ∧ x ≤ (n : Int) - 1 := of_decide_eq_true hq
          obtain ⟨j, rfl⟩ : ∃ j : Nat, x = (j : Int) := ⟨x.toNat, by omega⟩
          have hjn : j < n := by omega
          have hjn2 : (j : Int) < (n : Int) := by omega
          clear hq'
          simp only [Int.toNat_natCast] at EQ
          have hv := fun W (hW : I k s W) (hz : w.heap.size < W.heap.size) => HV.out k s (j : Int) W hlt hW hz hq
          clear hq
          generalize hst : step s (j : Int) = sr at *
          obtain ⟨s', r⟩ := sr
          dsimp only at hv EQ
          have EQ2 : Hid _ := EQ
          clear EQ hst
          cases r with
          | false =>
            have E4 : climbF S up step n (up (nd S p)) st = s' := by simpa using EQ2.out
            have E5 : Hid _ := E4
            clear E4
            go_wp2_with (first
              | (go_at_call 48; refine (hp _).mono ?_; rintro e w3 ⟨rfl, hb3⟩)
              | (go_at_fn KV; refine (hv _ (HI.out _ _ _ _ I3.out hb3) (Nat.lt_of_lt_of_le hsz3 hb3.size)).mono ?_; rintro e w4 ⟨rfl, I4, O4, _⟩))
            refine bodyPost_ret (v := .tuple #[]) (by simp [results, Try.results49, go_sem]) rfl ⟨rfl, ?_, ?_⟩
            · rw [E5.out]; exact ⟨k + 1, by omega, I4⟩
            · exact (O3.out.trans (Off.of_below hb3)).trans O4
          | true =>
            have E4 : climbF S up step n (up (nd S p)) st = climbF S up step f (up (nd S j)) s' := by simpa using EQ2.out
            have E5 : Hid _ := E4
            clear E4
            have fr : ∀ w3 w4 : World, Below wr.heap.size wr w3 → (∀ k : Nat, w3.heap[k]? = some (.cells #[.slice (some ⟨b, o, none⟩) n c] 24 (0, 0)) → w4.heap[k]? = w3.heap[k]?) → w4.heap[w.heap.size]? = some (.cells #[.slice (some ⟨b, o, none⟩) n c] 24 (0, 0)) := fun w3 w4 h3 h4 =>
              (h4 _ ((h3.block _ hsz3).trans HX3.out)).trans ((h3.block _ hsz3).trans HX3.out)
            have FR : Hid _ := fr
            clear fr
            go_wp2_with (first
              | (go_at_call 48; refine (hp _).mono ?_; rintro e w3 ⟨rfl, hb3⟩)
              | (go_at_fn KV; refine (hv _ (HI.out _ _ _ _ I3.out hb3) (Nat.lt_of_lt_of_le hsz3 hb3.size)).mono ?_; rintro e w4 ⟨rfl, I4, O4, T4⟩; have HX4 : Hid (w4.heap[w.heap.size]? = some (.cells #[.slice (some ⟨b, o, none⟩) n c] 24 (0, 0))) := FR.out w3 w4 hb3 T4; have lb4 := box_cell HX4.out; clear T4; have II4 : Hid (I (k + 1) s' w4) := I4; clear I4; obtain ⟨b', o', e', c0, c1, c2, c3, c4, ⟨ka, kc, c5, _⟩, c6, c7⟩ := IS.out _ _ _ II4.out j (by rw [HN.out]; exact hjn); cases e')
              | (go_at_fn KU; refine (hU (nd S j) _ _).mono ?_; rintro e w5 ⟨rfl, hb5⟩))
            go_roundg (n - (k + 1))
            case measure => omega
            case rel =>
              refine ⟨k + 1, up (nd S j), s', by omega, by omega, by go_num, rfl, HI.out _ _ _ _ II4.out hb5, (O3.out.trans (Off.of_below hb3)).trans (O4.trans (Off.of_below hb5)), ?_, (hb5.cell (World.block_lt_of_cell? _ _ lb4)).trans lb4, (hb5.block _ (World.block_lt_of_cell? _ _ lb4)).trans HX4.out, ?_⟩
              · have := World.block_lt_of_cell? _ _ lb4
                have h5 := hb5.size
                have : w.heap.size < w4.heap.size := this
                omega
              · rw [show n - (k + 1) = f by omega]; exact E5
      · have hk' : k = n := by omega
        subst hk'
        have EQ := E3.out
        rw [Nat.sub_self] at EQ
        have E4 : Hid (climbF S up step k (up (nd S p)) st = s) := EQ
        clear EQ E3
        go_wp2
        refine bodyPost_end (v := .tuple #[]) (by simp [results, Try.results49, go_sem]) rfl ⟨rfl, ?_, O3.out⟩
        rw [E4.out]; exact ⟨k, Nat.le_refl _, I3.out⟩

/-- The path so far lies in memory of the call's own. -/
def PathI (W : World) (a : Option Addr) (S : List Nd) (bf : Nat) (i : Nat) (st : List Int) (w1 : World) : Prop :=
  Below W.heap.size W w1 ∧ NdsAt W a S ∧ W.heap.size ≤ bf ∧ st.length = i + 1 ∧ ∃ v, w1.heap[bf]? = some (.cells #[v] 41 (0, 0)) ∧ w1.ownsRow W.heap.size 3 1 v st.length (st.map (Value.int .i64))

theorem PathI.below {W w1 w2 : World} {a : Option Addr} {S : List Nd} {bf i : Nat} {st : List Int} (h : PathI W a S bf i st w1) (hb : Below w1.heap.size w1 w2) : PathI W a S bf i st w2 := by
  obtain ⟨hB, hS, hbf, hl, v, hc, hown⟩ := h
  have hbw := (Array.getElem?_eq_some_iff.1 hc).1
  exact ⟨hB.trans (hb.mono hB.size), hS, hbf, hl, v, (hb.block _ hbw).trans hc, hown.kept (row := none) ⟨hb.os, hb.tape, hb.output, hb.size, fun k hk _ => hb.block k hk⟩ (by
    cases hv : v.ownBlock with
    | none => exact Or.inl rfl
    | some k => exact Or.inr (fun e => by cases e))⟩

theorem PathI.step {W w1 w2 : World} {a : Option Addr} {S : List Nd} {bf i : Nat} {st : List Int} (x : Int) (h : PathI W a S bf i st w1) {v v' : Value} (hc : w1.heap[bf]? = some (.cells #[v] 41 (0, 0))) (o1 : Obj)
    (hown : w1.ownsRow W.heap.size 3 1 v st.length (st.map (Value.int .i64)))
    (hown' : w2.ownsRow W.heap.size 3 1 v' (st.length + 1) (st.map (Value.int .i64) ++ [.int .i64 x])) (hg : (w1.alloc o1).grownBy w2 v.ownBlock) :
    w2.heap[bf]? = some (.cells #[v] 41 (0, 0)) ∧ PathI W a S bf (i + 1) (st ++ [x]) (w2.setCell ⟨bf, 0, none⟩ v') ∧ Off (fun k => W.heap.size ≤ k) w1 (w2.setCell ⟨bf, 0, none⟩ v') ∧
      (∀ k : Nat, ∀ x t, w1.heap[k]? = some (.cells #[x] t (0, 0)) → t ≠ 41 → t ≠ 3 → (w2.setCell ⟨bf, 0, none⟩ v').heap[k]? = w1.heap[k]?) := by
  obtain ⟨hB, hS, hbf, hl, _, _, _⟩ := h
  have hbw := (Array.getElem?_eq_some_iff.1 hc).1
  have hrow : ∀ k, v.ownBlock = some k → W.heap.size ≤ k := fun k hk => (hown.lt k hk).1
  have hrt : ∀ k, v.ownBlock = some k → ∀ x t, w1.heap[k]? = some (.cells #[x] t (0, 0)) → t = 3 := fun k hk x t hx => by
    rcases hown.2 with ⟨hv, _⟩ | ⟨g, cap, cur, hv, _, hcur, _⟩
    · rw [hv] at hk; cases hk
    · rw [hv] at hk
      have : g = k := by simpa [Value.ownBlock] using hk
      rw [← this, hcur] at hx; cases hx; rfl
  have hblk : ∀ k, k < w1.heap.size → v.ownBlock ≠ some k → w2.heap[k]? = w1.heap[k]? := fun k hk hn =>
    (hg.block k (by simp; omega) (fun e => hn e.symm)).trans (Below.heap_alloc _ _ _ (by omega))
  have hbfn : v.ownBlock ≠ some bf := fun e => by have := hrt bf e _ _ hc; revert this; decide
  have hc2 : w2.heap[bf]? = some (.cells #[v] 41 (0, 0)) := (hblk bf hbw hbfn).trans hc
  have hsz := hg.size
  have hBs := hB.size
  simp only [World.size_alloc] at hsz
  refine ⟨hc2, ⟨⟨?_, ?_, ?_, ?_, fun k hk => ?_⟩, hS, hbf, by simp [hl], v', box_set hc2, ?_⟩, ⟨?_, ?_, ?_, ?_, fun k hk hx => ?_⟩, fun k x t hk h1 h2 => ?_⟩
  · exact hg.os.trans hB.os
  · exact hg.tape.trans hB.tape
  · exact hg.output.trans hB.output
  · simp; omega
  · rw [Below.heap_setCell _ _ _ _ (by show k ≠ bf; omega), hblk k (by omega) (fun e => by have := hrow k e; omega)]
    exact hB.block k hk
  · have h3 := hown'.kept (grownBy_setCell w2 ⟨bf, 0, none⟩ v') (by
      cases hb : v'.ownBlock with
      | none => exact Or.inl rfl
      | some k =>
        right
        intro e
        rcases hown'.2 with ⟨hv, h0⟩ | ⟨g, cap, cur, hv, _, hcur, _⟩
        · omega
        · rw [hv] at hb
          have e1 : g = k := by simpa [Value.ownBlock] using hb
          have e2 : k = bf := by simpa using e
          rw [e1, e2, hc2] at hcur
          cases hcur)
    simpa using h3
  · exact hg.os
  · exact hg.tape
  · exact hg.output
  · simp; omega
  · rw [Below.heap_setCell _ _ _ _ (by show k ≠ bf; exact fun e => hx (by show W.heap.size ≤ k; omega)), hblk k hk (fun e => hx (hrow k e))]
  · have hkl := (Array.getElem?_eq_some_iff.1 hk).1
    rw [Below.heap_setCell _ _ _ _ (by show k ≠ bf; exact fun e => by rw [e, hc] at hk; cases hk; exact h1 rfl), hblk k hkl (fun e => h2 (hrt k e _ _ hk))]

set_option maxRecDepth 100000 in
set_option maxHeartbeats 1000000 in
theorem pathVisit_any (W : World) (a : Option Addr) (S : List Nd) (bf i : Nat) (st : List Int) (x : Int) (w1 : World) (hi : i ≤ 1000) (h : PathI W a S bf i st w1) :
    Calls Try.prog 51 #[.int .i64 x, .pointer (some ⟨bf, 0, none⟩)] w1 fun e w2 => e = .returned (.bool true) ∧ PathI W a S bf (i + 1) (st ++ [x]) w2 ∧ Off (fun k => W.heap.size ≤ k) w1 w2 ∧ ∀ (k : Nat) x t, w1.heap[k]? = some (.cells #[x] t (0, 0)) → t ≠ 41 → t ≠ 3 → w2.heap[k]? = w1.heap[k]? := by
  obtain ⟨i0, hi0, hz0, hz1, hz2⟩ := info_parts info3
  obtain ⟨_, _, _, hl, v, hc, hown⟩ := id h
  have ST : Hid (∀ v' w2 o1, w2.ownsRow W.heap.size 3 1 v' (st.length + 1) (st.map (Value.int .i64) ++ [.int .i64 x]) → (w1.alloc o1).grownBy w2 v.ownBlock → _) := fun v' w2 o1 h1 h2 => PathI.step x h hc o1 hown h1 h2
  have OWN : Hid (w1.ownsRow W.heap.size 3 1 v st.length (st.map (Value.int .i64))) := hown
  have cb := box_cell hc
  have hbl := World.block_lt_of_cell? _ _ cb
  have hsm : st.length ≤ 2000 := by omega
  clear hown hc h hl
  go_enter Try.func51, Try.ntmps51
  go_wp2_with (at_builtin; refine wpList_append_own _ rfl _ _ 41 rfl W.heap.size 3 i0 (.int .i64 0) 1 8 Try.underlying41 hi0 hz0 hz1 hz2 rfl (by decide) _ _ _ rfl (OWN.out.alloc _) ⟨w1.heap.size, 0, none⟩ 1 1 [.int .i64 x] rfl rfl ?c1 ?c2 ?c3 ?c4 ?c5 ?_)
  case c2 => rfl
  case c3 => unfold maxLen; omega
  case c4 => omega
  case c5 => omega
  intro v' w2 hown' hgrow _
  obtain ⟨g', cap', rfl⟩ : ∃ g' cap', v' = .slice (some ⟨g', 0, none⟩) (st.length + 1) cap' := by
    rcases hown'.2 with ⟨_, h⟩ | ⟨g', cap', cur, h, _⟩
    · omega
    · exact ⟨g', cap', h⟩
  obtain ⟨hc2, hI2, hO2, hT2⟩ := ST.out _ _ _ hown' hgrow
  have HI2 : Hid _ := hI2
  have HO2 : Hid _ := hO2
  have HT2 : Hid _ := hT2
  have cb2 := box_cell hc2
  have fb2 := fun o => box_frozen (o := o) hc2
  clear hown' hgrow hI2 hO2 hT2 hc2
  go_wp2
  go_ret
  exact ⟨rfl, HI2.out, HO2.out, HT2.out⟩
end Go.Proofs.Ytplkfacaphejgaa
