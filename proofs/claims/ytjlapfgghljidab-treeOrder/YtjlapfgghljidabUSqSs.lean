/-
  The law TreeOrder, but for its closed fact: what it answers, of whatever store and hand.
-/
import Derived.Test.YtjlapfgghljidabUSoTmSr
import Derived.Test.YtjlapfgghljidabUSmBoSpLay
import Derived.Deep.RegionHeld3
import Derived.BigQuiet
namespace Go.Proofs.Ytjlapfgghljidab
open Go.RowKit

set_option maxHeartbeats 400000 in
theorem used_any (a : Option Addr) (c : Nat) (S : List Nd) (k : Nat) (w : World) (hk : k < S.length) (hS : NdsAt w a S) :
    Calls Try.prog 12 #[.agg #[.slice a S.length c], .int .i64 k] w fun e w' => e = .returned (.bool (nd S k).u) ∧ w' = w.alloc (.cells #[.slice a S.length c] 24) := by
  obtain ⟨b, o, rfl, c0, _⟩ := hS k hk
  have hbw := World.block_lt_of_cell? _ _ c0
  have hk2 : (k : Int) < (S.length : Int) := by omega
  have h0 : decide (0 ≤ (k : Int)) = true := decide_eq_true (by omega)
  have h1 : decide ((k : Int) < (S.length : Int)) = true := decide_eq_true hk2
  clear hS
  generalize (nd S k).u = u at *
  generalize S.length = n at *
  go_enter Try.func12, Try.ntmps12
  go_wp2
  go_ret
  exact ⟨rfl, rfl⟩
set_option maxHeartbeats 1000000 in
theorem treeOrder_err (G : GrownOk) (a : Option Addr) (c : Nat) (S : List Nd) (p u : Int) (w : World) (hN : S.length ≤ 9223372036854775807) (hB : Big S) (hS : NdsAt w a S) (hE : tcheckE S [(p, u)] ≠ 0) :
    Calls Try.prog 3 #[.agg #[.slice a S.length c], .agg #[.int .i64 p, .int .i64 u]] w fun e w' => e = .returned (.bool true) ∧ Below w.heap.size w w' := by
  have d1 := fun (W : World) (hW : NdsAt W a S) => order_err a c S p u (tcheckE S [(p, u)]) W hN hB hW rfl hE
  have D1 : Hid _ := d1
  have HS : Hid (NdsAt w a S) := hS
  clear hS d1 hB
  generalize tcheckE S [(p, u)] = E at *
  have hz : (E == 0) = false := beq_eq_false_iff_ne.2 hE
  generalize S.length = n at *
  go_enter Try.func3, Try.ntmps3
  go_wp2_with (go_at_call 9; refine (D1.out _ (HS.out.below (two_below _ _ _))).mono ?_; rintro e w1 ⟨rfl, hb1⟩)
  refine (G _).mono ?_
  rintro e w2 ⟨rfl, hb2⟩
  go_wp2_with fail
  refine (G _).mono ?_
  rintro e w3 ⟨rfl, hb3⟩
  go_wp2
  go_ret
  have h1 : Below w.heap.size w w1 := (two_below _ _ _).trans (hb1.mono (by simp; omega))
  have h2 := h1.trans (hb2.mono h1.size)
  exact ⟨rfl, h2.trans (hb3.mono h2.size)⟩
end Go.Proofs.Ytjlapfgghljidab

namespace Go.Proofs.Ytjlapfgghljidab
open Go.RowKit

set_option maxHeartbeats 800000 in
theorem treeOrder_ok (G : GrownOk) (a : Option Addr) (c : Nat) (S : List Nd) (k : Nat) (u : Int) (w : World) (hN : S.length ≤ 24) (hB : Big S) (hS : NdsAt w a S) (hE : tcheckE S [((k : Int), u)] = 0) (hk : k < S.length) (hD : Deep S S.length k) (hF : OrderFacts S k (orderS S k)) :
    Calls Try.prog 3 #[.agg #[.slice a S.length c], .agg #[.int .i64 k, .int .i64 u]] w fun e w' => e = .returned (.bool true) ∧ Below w.heap.size w w' := by
  have d1 := fun (W : World) (hW : NdsAt W a S) => order_ok a c S k S.length u W (by omega) hB hW hE hk hD (by have := hF.small; unfold orderS at this; omega)
  rw [show orderF S S.length k = orderS S k from rfl] at d1
  have D1 : Hid _ := d1
  have HS : Hid (NdsAt w a S) := hS
  have HF : Hid _ := hF
  have hL0 := hF.pos
  have hL24 := hF.small
  have hhead := hF.head
  have du := fun (q : Nat) (hq : q < S.length) (W : World) (hW : NdsAt W a S) => used_any a c S q W hq hW
  have DU : Hid _ := du
  have dc := fun (sa : Option Addr) (cap : Nat) (ks : List Int) (hks : ks.length ≤ 24) (v : Int) (W : World) (hW : IntsAt W sa ks) => contains_any sa cap ks v W (by omega) hW
  have DC : Hid _ := dc
  clear hS d1 hB hF hE hD du dc
  generalize hl : orderS S k = l at *
  clear hl
  generalize hn : S.length = n at *
  have HN : Hid (S.length = n) := hn
  clear hn
  generalize hL : l.length = L at *
  have HL : Hid (l.length = L) := hL
  clear hL
  go_enter Try.func3, Try.ntmps3
  go_wp2_with (go_at_call 9; refine (D1.out _ (HS.out.below (two_below _ _ _))).mono ?_; rintro e w1 ⟨sa, cap, rfl, hb1, hia, hcap, hcap2⟩; simp only [World.size_alloc] at hb1; obtain ⟨l0, l1, l2⟩ := law_low hb1; have hb1' : Below w.heap.size w w1 := (two_below _ _ _).trans (hb1.mono (by omega)); have HIA : Hid (IntsAt w1 sa l) := hia; clear hia)
  refine (G _).mono ?_
  rintro e w2 ⟨rfl, hb2⟩
  have m0 := (hb2.cell (World.block_lt_of_cell? _ _ l0)).trans l0
  have m1 := (hb2.cell (World.block_lt_of_cell? _ _ l1)).trans l1
  have HB2 : Hid (Below w.heap.size w w2) := hb1'.trans (hb2.mono hb1'.size)
  have HI2 : Hid (IntsAt w2 sa l) := HIA.out.below hb2
  have HS2 : Hid (NdsAt w2 a S) := HS.out.below HB2.out
  have z0 := World.block_lt_of_cell? _ _ m0
  have z1 := World.block_lt_of_cell? _ _ m1
  clear l0 l1 l2 hb1 hb2 hb1' HIA D1
  go_wp2_with fail
  go_loopg [26] L (fun g s26 wr => ∃ i : Nat, i ≤ L ∧ L - i ≤ g ∧ s26 = .int .i64 i ∧ Below w2.heap.size w2 wr)
  case atStart => exact ⟨0, by omega, by omega, rfl, Below.refl _ _⟩
  case round =>
    obtain ⟨i, hi, hg, rfl, hb⟩ := hrel
    have n0 := (hb.cell z0).trans m0
    have n1 := (hb.cell z1).trans m1
    by_cases hlt : i < L
    · obtain ⟨q, e1, hq, hu, hnot, hpar⟩ := HF.out.each i (by rw [HL.out]; exact hlt)
      have hq' : q < n := by rw [← HN.out]; exact hq
      have hq2 : (q : Int) < (n : Int) := by omega
      obtain ⟨sb, so, rfl, hlc⟩ := (HI2.out.below hb) i (by rw [HL.out]; exact hlt)
      rw [e1] at hlc
      obtain ⟨b, o, rfl, c0, _, _, _, c4, _⟩ := (HS2.out.below hb) q hq
      have hbw := World.block_lt_of_cell? _ _ c0
      have hlen : (l.take i).length = i := by rw [List.length_take, HL.out]; omega
      have q1 := DC.out (some ⟨sb, so, none⟩) cap (l.take i) (by omega) (q : Int) wr.drew ((HI2.out.below hb.drew).take i)
      rw [decide_eq_false hnot, hlen] at q1
      have q2 := DU.out q hq' wr.drew (HS2.out.below hb.drew)
      rw [hu] at q2
      have hic : (i : Int) ≤ (cap : Int) := by omega
      have hlt2 : (i : Int) < (L : Int) := by omega
      by_cases hpos : 0 < i
      · have hd : decide ((0 : Int) < (i : Int)) = true := decide_eq_true (by omega)
        have hdn : decide (0 < i) = true := decide_eq_true hpos
        have q3 := DC.out (some ⟨sb, so, none⟩) cap (l.take i) (by omega) (nd S q).p (wr.alloc (.cells #[.slice (some ⟨b, o, none⟩) n c] 24)).drew ((HI2.out.below (hb.alloc hb.size _).drew).take i)
        rw [decide_eq_true (hpar hpos), hlen] at q3
        have HP : Hid _ := hpos
        clear hpar e1 hu hnot hlen hpos
        generalize (nd S q).p = pq at *
        go_wp2_with fail
        go_region_held3 (fun w'' => w''.cell? ⟨w.heap.size, 0, none⟩ = some (.slice (some ⟨b, o, none⟩) n c) ∧ w''.cell? ⟨b, o + q * 8 + 4, none⟩ = some (.int .i64 pq)) (go_keep) (first | (go_at_call_of 11 (Value.int .i64 (q : Int)); refine q1.mono ?_; rintro e w3 ⟨rfl, rfl⟩) | (go_at_call 12; refine q2.mono ?_; rintro e w3 ⟨rfl, rfl⟩) | (go_at_call_of 11 (Value.int .i64 pq); refine q3.mono ?_; rintro e w3 ⟨rfl, rfl⟩))
        all_goals go_wp2
        all_goals go_roundg (L - (i + 1))
        case measure => omega
        case rel => exact ⟨i + 1, by omega, by omega, by go_num, (hb.alloc hb.size _).drew⟩
      · have hd : decide ((0 : Int) < (i : Int)) = false := decide_eq_false (by omega)
        have hdn : decide (0 < i) = false := decide_eq_false hpos
        have HP : Hid _ := hpos
        clear hpar e1 hu hnot hlen hpos
        go_wp2_with fail
        refine wp_region_noPanic ?_
        refine wp_region_held_drew (S := fun w'' => w''.cell? ⟨w.heap.size, 0, none⟩ = some (.slice (some ⟨b, o, none⟩) n c)) (by kernel_rfl) (by (try dsimp only); go_keep) (fun hHeld => ?_)
        refine wpAnyH_take (i := 0) (v := ?_) rfl (by kernel_rfl) (by kernel_rfl) (by kernel_rfl) (fun _ _ _ h => h) (Or.inl ⟨by rfl, ?_⟩) (by assumption) ?_
        rotate_left
        · intro w hSw; (try dsimp only at hSw); first | (go_simp; done) | (go_simp; with_reducible rfl)
        simp [Act.put]
        refine wpAnyH_take (i := 1) (v := ?_) rfl (by kernel_rfl) (by kernel_rfl) (by kernel_rfl) (fun _ _ _ h => h) (Or.inl ⟨by rfl, ?_⟩) (by assumption) ?_
        rotate_left
        · intro w hSw; (try dsimp only at hSw); first | (go_simp; done) | (go_simp; with_reducible rfl)
        simp [Act.put]
        refine wpAnyH_take (i := 2) (v := ?_) rfl (by kernel_rfl) (by kernel_rfl) (by kernel_rfl) (fun _ _ _ h => h) (Or.inl ⟨by rfl, ?_⟩) (by assumption) ?_
        rotate_left
        · intro w hSw; (try dsimp only at hSw); first | (go_simp; done) | (go_simp; with_reducible rfl)
        simp [Act.put]
        refine wpAnyH_take (i := 3) (v := ?_) rfl (by kernel_rfl) (by kernel_rfl) (by kernel_rfl) (fun _ _ _ h => h) (Or.inl ⟨by rfl, ?_⟩) (by assumption) ?_
        rotate_left
        · intro w hSw; (try dsimp only at hSw); first | (go_simp; done) | (go_simp; with_reducible rfl)
        simp [Act.put]
        refine wpAnyH_ready (rs := [4]) (by kernel_rfl) (by simp) ?_
        refine AllReadyH.cons rfl (fun K hK => ?_) AllReadyH.nil
        go_simp
        refine q1.mono ?_
        rintro e w3 ⟨rfl, rfl⟩
        go_wp2_with fail
        refine hK.out _ _ ?_ (fun hHeld => ?_)
        · (try dsimp only)
          go_keep
        clear hK K
        try simp [Act.put]
        refine wpAnyH_take (i := 5) (v := ?_) rfl (by kernel_rfl) (by kernel_rfl) (by kernel_rfl) (fun _ _ _ h => h) (Or.inl ⟨by rfl, ?_⟩) (by assumption) ?_
        rotate_left
        · intro w hSw; (try dsimp only at hSw); first | (go_simp; done) | (go_simp; with_reducible rfl)
        simp [Act.put]
        refine wpAnyH_take (i := 6) (v := ?_) rfl (by kernel_rfl) (by kernel_rfl) (by kernel_rfl) (fun _ _ _ h => h) (Or.inl ⟨by rfl, ?_⟩) (by assumption) ?_
        rotate_left
        · intro w hSw; (try dsimp only at hSw); first | (go_simp; done) | (go_simp; with_reducible rfl)
        simp [Act.put]
        refine wpAnyH_take (i := 7) (v := ?_) rfl (by kernel_rfl) (by kernel_rfl) (by kernel_rfl) (fun _ _ _ h => h) (Or.inl ⟨by rfl, ?_⟩) (by assumption) ?_
        rotate_left
        · intro w hSw; (try dsimp only at hSw); first | (go_simp; done) | (go_simp; with_reducible rfl)
        simp [Act.put]
        refine wpAnyH_ready (rs := [8]) (by kernel_rfl) (by simp) ?_
        refine AllReadyH.cons rfl (fun K hK => ?_) AllReadyH.nil
        go_simp
        refine q2.mono ?_
        rintro e w3 ⟨rfl, rfl⟩
        go_wp2_with fail
        refine hK.out _ _ ?_ (fun hHeld => ?_)
        · (try dsimp only)
          go_keep
        clear hK K
        try simp [Act.put]
        refine wpAnyH_take (i := 9) (v := ?_) rfl (by kernel_rfl) (by kernel_rfl) (by kernel_rfl) (fun _ _ _ h => h) (Or.inl ⟨by rfl, ?_⟩) (by assumption) ?_
        rotate_left
        · intro w hSw; (try dsimp only at hSw); first | (go_simp; done) | (go_simp; with_reducible rfl)
        simp [Act.put]
        refine wpAnyH_take (i := 10) (v := ?_) rfl (by kernel_rfl) (by kernel_rfl) (by kernel_rfl) (fun _ _ _ h => h) (Or.inl ⟨by rfl, ?_⟩) (by assumption) ?_
        rotate_left
        · intro w hSw; (try dsimp only at hSw); first | (go_simp; done) | (go_simp; with_reducible rfl)
        simp [Act.put]
        refine wpAnyH_take (i := 11) (v := ?_) rfl (by kernel_rfl) (by kernel_rfl) (by kernel_rfl) (fun _ _ _ h => h) (Or.inl ⟨by rfl, ?_⟩) (by assumption) ?_
        rotate_left
        · intro w hSw; (try dsimp only at hSw); first | (go_simp; done) | (go_simp; with_reducible rfl)
        simp [Act.put]
        refine wpAnyH_take (i := 12) (v := ?_) rfl (by kernel_rfl) (by kernel_rfl) (by kernel_rfl) (fun _ _ _ h => h) (Or.inl ⟨by rfl, ?_⟩) (by assumption) ?_
        rotate_left
        · intro w hSw; (try dsimp only at hSw); first | (go_simp; done) | (go_simp; with_reducible rfl)
        simp [Act.put]
        refine wpAnyH_take (i := 13) (v := ?_) rfl (by kernel_rfl) (by kernel_rfl) (by kernel_rfl) (fun _ _ _ h => h) (Or.inl ⟨by rfl, ?_⟩) (by assumption) ?_
        rotate_left
        · intro w hSw; (try dsimp only at hSw); first | (go_simp; done) | (go_simp; with_reducible rfl)
        simp [Act.put]
        refine wpAnyH_take (i := 14) (v := ?_) rfl (by kernel_rfl) (by kernel_rfl) (by kernel_rfl) (fun _ _ _ h => h) (Or.inl ⟨by rfl, ?_⟩) (by assumption) ?_
        rotate_left
        · intro w hSw; (try dsimp only at hSw); first | (go_simp; done) | (go_simp; with_reducible rfl)
        simp [Act.put]
        refine wpAnyH_take (i := 15) (v := undef) rfl (by kernel_rfl) (by kernel_rfl) (by kernel_rfl) (fun _ _ _ h => h) (Or.inr ⟨by rfl, rfl⟩) (by assumption) ?_
        simp [Act.put]
        refine wpAnyH_take (i := 16) (v := undef) rfl (by kernel_rfl) (by kernel_rfl) (by kernel_rfl) (fun _ _ _ h => h) (Or.inr ⟨by rfl, rfl⟩) (by assumption) ?_
        simp [Act.put]
        refine wpAnyH_take (i := 17) (v := undef) rfl (by kernel_rfl) (by kernel_rfl) (by kernel_rfl) (fun _ _ _ h => h) (Or.inr ⟨by rfl, rfl⟩) (by assumption) ?_
        simp [Act.put]
        refine wpAnyH_take (i := 18) (v := undef) rfl (by kernel_rfl) (by kernel_rfl) (by kernel_rfl) (fun _ _ _ h => h) (Or.inr ⟨by rfl, rfl⟩) (by assumption) ?_
        simp [Act.put]
        refine wpAnyH_take (i := 19) (v := undef) rfl (by kernel_rfl) (by kernel_rfl) (by kernel_rfl) (fun _ _ _ h => h) (Or.inr ⟨by rfl, rfl⟩) (by assumption) ?_
        simp [Act.put]
        refine wpAnyH_take (i := 20) (v := undef) rfl (by kernel_rfl) (by kernel_rfl) (by kernel_rfl) (fun _ _ _ h => h) (Or.inr ⟨by rfl, rfl⟩) (by assumption) ?_
        simp [Act.put]
        refine wpAnyH_take (i := 21) (v := undef) rfl (by kernel_rfl) (by kernel_rfl) (by kernel_rfl) (fun _ _ _ h => h) (Or.inr ⟨by rfl, rfl⟩) (by assumption) ?_
        simp [Act.put]
        refine wpAnyH_take (i := 22) (v := undef) rfl (by kernel_rfl) (by kernel_rfl) (by kernel_rfl) (fun _ _ _ h => h) (Or.inr ⟨by rfl, rfl⟩) (by assumption) ?_
        simp [Act.put]
        refine wpAnyH_take (i := 23) (v := undef) rfl (by kernel_rfl) (by kernel_rfl) (by kernel_rfl) (fun _ _ _ h => h) (Or.inr ⟨by rfl, rfl⟩) (by assumption) ?_
        simp [Act.put]
        refine wpAnyH_take (i := 24) (v := undef) rfl (by kernel_rfl) (by kernel_rfl) (by kernel_rfl) (fun _ _ _ h => h) (Or.inr ⟨by rfl, rfl⟩) (by assumption) ?_
        simp [Act.put]
        refine wpAnyH_take (i := 25) (v := undef) rfl (by kernel_rfl) (by kernel_rfl) (by kernel_rfl) (fun _ _ _ h => h) (Or.inr ⟨by rfl, rfl⟩) (by assumption) ?_
        simp [Act.put]
        refine wpAnyH_take (i := 26) (v := ?_) rfl (by kernel_rfl) (by kernel_rfl) (by kernel_rfl) (fun _ _ _ h => h) (Or.inl ⟨by rfl, ?_⟩) (by assumption) ?_
        rotate_left
        · intro w hSw; (try dsimp only at hSw); first | (go_simp; done) | (go_simp; with_reducible rfl)
        simp [Act.put]
        refine wpAnyH_take (i := 27) (v := ?_) rfl (by kernel_rfl) (by kernel_rfl) (by kernel_rfl) (fun _ _ _ h => h) (Or.inl ⟨by rfl, ?_⟩) (by assumption) ?_
        rotate_left
        · intro w hSw; (try dsimp only at hSw); first | (go_simp; done) | (go_simp; with_reducible rfl)
        simp [Act.put]
        refine wpAnyH_done (by kernel_rfl) ?_ _
        refine NoPanic.normal ?_
        go_wp2
        go_roundg (L - (i + 1))
        case measure => omega
        case rel => exact ⟨i + 1, by omega, by omega, by go_num, (hb.alloc hb.size _).drew⟩
    · have : i = L := by omega
      subst this
      have HC : Hid (∀ q : Nat, q < n → 0 ≤ (nd S q).p → q ≠ k → decide ((nd S q).p ∈ l) = decide ((q : Int) ∈ l)) := fun q hq => HF.out.closed q (by rw [HN.out]; exact hq)
      have hk2 : (k : Int) < (n : Int) := by omega
      go_wp2
      go_loopg [63] n (fun g s63 w3 => ∃ q : Nat, q ≤ n ∧ n - q ≤ g ∧ s63 = .int .i64 q ∧ Below w2.heap.size w2 w3)
      case atStart => exact ⟨0, by omega, by omega, rfl, hb⟩
      case round =>
        obtain ⟨q, hq, hg2, rfl, hb3⟩ := hrel
        clear n0 n1 hb hg
        have n0 := (hb3.cell z0).trans m0
        have n1 := (hb3.cell z1).trans m1
        have zs := hb3.size
        by_cases hql : q < n
        · obtain ⟨b, o, rfl, c0, c1, c2, c3, c4, ⟨ka, kc, c5, _⟩, c6, c7⟩ := (HS2.out.below hb3) q (by rw [HN.out]; exact hql)
          have hbw := World.block_lt_of_cell? _ _ c0
          have n1' : ∀ o1, (wr.alloc o1).cell? ⟨w.heap.size + 1, 0, none⟩ = some (.int .i64 k) := fun o1 => ((((Below.refl _ _).alloc (Nat.le_refl _) o1)).cell (World.block_lt_of_cell? _ _ n1)).trans n1
          have d1 := fun v o1 => DC.out sa cap l (by rw [HL.out]; exact hL24) v (wr.alloc o1) (HI2.out.below (hb3.alloc hb3.size o1))
          rw [HL.out] at d1
          have hcl := HC.out q hql
          have HIX : Hid _ := HI2
          generalize hx : nd S q = x at *
          obtain ⟨xu, xn, xt, xm, xp, xks, xh, xc⟩ := x
          dsimp only at *
          clear hx
          generalize xks.length = kl at *
          cases xu with
          | false =>
            go_wp2
            go_roundg (n - (q + 1))
            case measure => omega
            case rel => exact ⟨q + 1, by omega, by omega, by go_num, hb3.alloc hb3.size _⟩
          | true =>
            by_cases hp : 0 ≤ xp
            · have hp1 : decide (0 ≤ xp) = true := decide_eq_true hp
              by_cases hqk : q = k
              · subst hqk
                go_wp2
                go_roundg (n - (q + 1))
                case measure => omega
                case rel => exact ⟨q + 1, by omega, by omega, by go_num, hb3.alloc hb3.size _⟩
              · have hqk1 : ((q : Int) == (k : Int)) = false := beq_eq_false_iff_ne.2 (by omega)
                have hqk2 : ((q : Int) != (k : Int)) = true := by simp [bne, hqk1]
                have hcl2 := hcl hp hqk
                have e1 := fun o1 => d1 xp o1
                have e2 := fun o1 => d1 (q : Int) o1
                rw [hcl2] at e1
                clear hcl hcl2 d1
                generalize decide ((q : Int) ∈ l) = bb at *
                go_wp2_with (first | (go_at_call_of 11 (Value.int .i64 xp); refine (e1 _).mono ?_; rintro e w4 ⟨rfl, rfl⟩) | (go_at_call_of 11 (Value.int .i64 (q : Int)); refine (e2 _).mono ?_; rintro e w4 ⟨rfl, rfl⟩))
                go_roundg (n - (q + 1))
                case measure => omega
                case rel => exact ⟨q + 1, by omega, by omega, by go_num, hb3.alloc hb3.size _⟩
            · have hp1 : decide (0 ≤ xp) = false := decide_eq_false hp
              go_wp2
              go_roundg (n - (q + 1))
              case measure => omega
              case rel => exact ⟨q + 1, by omega, by omega, by go_num, hb3.alloc hb3.size _⟩
        · have : q = n := by omega
          subst this
          obtain ⟨sb, so, rfl, hlc⟩ := (HI2.out.below hb3) 0 (by rw [HL.out]; exact hL0)
          rw [hhead] at hlc
          have hL1 : (0 : Int) < (i : Int) := by omega
          rw [Nat.add_zero] at hlc
          go_wp2_with fail
          go_quiet (fail)
          go_wp2
          go_ret
          refine ⟨?_, Below.drewNs (HB2.out.trans (hb3.mono HB2.out.size)) _⟩
          first
            | rfl
            | simp
end Go.Proofs.Ytjlapfgghljidab
