/-
  slices.IndexFunc, slices.DeleteFunc over a closure that need tell of the slice's own numbers alone.
-/
import Derived.Test.YtkcclfilpchgkaaJUbWb
import Derived.Test.YtkcclfilpchgkaaJXdZa
import Derived.Test.YtkcclfilpchgkaaJSaBa
import Derived.Test.YtkcclfilpchgkaaJRaSlSmTa
namespace Go.Proofs.Ytkcclfilpchgkaa
open Go.RowKit

set_option maxHeartbeats 400000 in
theorem indexFunc_in (K : Nat) (caps : Array Value) (p : Int → Bool) (a : Option Addr) (c : Nat) (ks : List Int) (w : World) (hbig : ks.length ≤ 9223372036854775807) (hks : IntsAt w a ks)
    (eg : ∀ args w, (callFunc K args).run Try.prog w = .ok (.enter K args) w) (hf : ∀ x ∈ ks, ∀ w1, Below w.heap.size w w1 → Calls Try.prog K (#[.int .i64 x] ++ caps) w1 fun e w2 => e = .returned (.bool (p x)) ∧ Below w1.heap.size w1 w2) :
    Calls Try.prog 67 #[.slice a ks.length c, .func (.func K) #[] caps] w fun e w' => ∃ r : Int, e = .returned (.int .i64 r) ∧ Below w.heap.size w w' ∧
      ((r = -1 ∧ ∀ i, i < ks.length → p (ks.getD i 0) = false) ∨ (∃ k : Nat, k < ks.length ∧ r = k ∧ p (ks.getD k 0) = true ∧ ∀ i, i < k → p (ks.getD i 0) = false)) := by
  generalize hn : ks.length = n at *
  go_enter Try.func67, Try.ntmps67
  go_wp2
  go_loopg [8] n (fun g s8 wr => ∃ k : Nat, k ≤ n ∧ n - k ≤ g ∧ s8 = .int .i64 k ∧ Below w.heap.size w wr ∧ Hid (∀ i, i < k → p (ks.getD i 0) = false))
  case atStart => exact ⟨0, by omega, by omega, rfl, Below.refl _ _, fun i hi => by omega⟩
  case round =>
    obtain ⟨k, hk, hg, rfl, hb, A⟩ := hrel
    by_cases hlt : k < n
    · obtain ⟨b, o, rfl, hc⟩ := (hks.below hb) k (by omega)
      have hcall := hf (ks.getD k 0) (by rw [getD_elem ks 0 (by omega)]; exact List.getElem_mem _) wr hb
      have KS : Hid (IntsAt w (some ⟨b, o, none⟩) ks) := hks
      clear hks hf
      generalize hy : ks.getD k 0 = y at hc hcall
      have Y : Hid (ks.getD k 0 = y) := hy
      clear hy
      cases hq : p y with
      | true =>
        rw [hq] at hcall
        go_wp2_with (go_at_fn K; refine hcall.mono ?_; rintro e w' ⟨rfl, hb2⟩)
        go_ret
        exact ⟨k, rfl, hb.trans (hb2.mono hb.size), Or.inr ⟨k, hlt, rfl, by rw [Y.out]; exact hq, A.out⟩⟩
      | false =>
        rw [hq] at hcall
        go_wp2_with (go_at_fn K; refine hcall.mono ?_; rintro e w' ⟨rfl, hb2⟩)
        go_roundg (n - (k + 1))
        case measure => omega
        case rel =>
          refine ⟨k + 1, by omega, by omega, by go_num, hb.trans (hb2.mono hb.size), (show Hid _ from fun i hi => ?_)⟩
          by_cases e : i = k
          · subst e
            rw [Y.out]; exact hq
          · exact A.out i (by omega)
    · have : k = n := by omega
      subst this
      clear hks hf
      go_wp2
      go_ret
      exact ⟨-1, rfl, hb, Or.inl ⟨rfl, A.out⟩⟩


set_option maxHeartbeats 2000000 in
theorem deleteFunc_in (K : Nat) (caps : Array Value) (p : Int → Bool) (kb L cap : Nat) (ks : List Int) (G : Nat → Value) (w : World) (hL : ks.length = L) (hc : L ≤ cap) (hsm : cap ≤ 9223372036854775807) (hG : w.rowIs kb 3 cap G) (hGk : ∀ j, j < L → G j = .int .i64 (ks.getD j 0))
    (eg : ∀ args w, (callFunc K args).run Try.prog w = .ok (.enter K args) w) (hT : ∀ x ∈ ks, ∀ w1, Off (fun b => b = kb) w w1 → Calls Try.prog K (#[.int .i64 x] ++ caps) w1 fun e w2 => e = .returned (.bool (p x)) ∧ Below w1.heap.size w1 w2) :
    Calls Try.prog 68 #[.slice (some ⟨kb, 0, none⟩) L cap, .func (.func K) #[] caps] w (Deleted w kb cap (flt p ks)) := by
  have di := indexFunc_in K caps p (some ⟨kb, 0, none⟩) cap ks w (by omega) (ints_of_row hG (by omega) (by rw [hL]; exact hGk)) eg (fun x hx w1 hb => hT x hx w1 (Off.of_below hb))
  rw [hL] at di
  have HG : Hid (w.rowIs kb 3 cap G) := hG
  have HGk : Hid _ := hGk
  have HT : Hid _ := hT
  have HL : Hid _ := hL
  have hkb := hG.lt
  clear hG hGk hT hL
  go_enter Try.func68, Try.ntmps68
  go_wp2_with fail
  refine di.mono ?_
  rintro e w1 ⟨r, rfl, hb1, hr⟩
  clear di
  rcases hr with ⟨rfl, hall⟩ | ⟨k, hk, rfl, hp, hf⟩
  · have hfl := flt_all p ks (by rw [HL.out]; exact hall)
    have E : Hid _ := hfl
    clear hall hfl
    go_wp2
    go_ret
    refine ⟨by rw [E.out, HL.out]; rfl, Off.of_below hb1, G, HG.out.of_block (hb1.block kb hkb), fun j hj => ?_⟩
    rw [E.out] at hj ⊢
    exact HGk.out j (by rw [← HL.out]; exact hj)
  · have hk1 : ((k : Int) == -1) = false := beq_eq_false_iff_ne.2 (by omega)
    have F0 : Hid (flt p (ks.take (k + 1)) = ks.take k) := by
      show _ = _
      rw [flt_succ p ks k (by rw [HL.out]; exact hk), hp, if_pos rfl, List.append_nil]
      refine flt_all p _ (fun i hi => ?_)
      rw [List.length_take] at hi
      have hks := HL.out
      have h1 := hf i (by omega)
      rw [getD_elem ks 0 (by omega)] at h1
      rw [getD_elem (ks.take k) 0 (by rw [List.length_take]; omega), List.getElem_take]
      exact h1
    have HR0 : Hid (w1.rowIs kb 3 cap G) := HG.out.of_block (hb1.block kb hkb)
    have FI : Hid (∀ t, t < k → G t = .int .i64 ((flt p (ks.take (k + 1))).getD t 0)) := fun t ht => by
      have hks := HL.out
      rw [F0.out, HGk.out t (by omega), getD_elem ks 0 (by omega), getD_elem (ks.take k) 0 (by rw [List.length_take]; omega), List.getElem_take]
    have FL : Hid ((flt p (ks.take (k + 1))).length = k) := by
      have hks := HL.out
      show _ = _
      rw [F0.out, List.length_take]; omega
    have O1 : Hid (Off (fun b => b = kb) w w1) := Off.of_below hb1
    clear hp hf hb1
    go_wp2
    go_loopg [5, 6] L (fun g1 s5 s6 wr => ∃ (i j : Nat) (G2 : Nat → Value), i < j ∧ j ≤ L ∧ L - j ≤ g1 ∧ s5 = .int .i64 i ∧ s6 = .int .i64 j ∧ Hid (Off (fun b => b = kb) w wr) ∧ Hid (wr.rowIs kb 3 cap G2) ∧ Hid ((flt p (ks.take j)).length = i) ∧ Hid (∀ t, t < i → G2 t = .int .i64 ((flt p (ks.take j)).getD t 0)) ∧ Hid (∀ t, j ≤ t → t < L → G2 t = .int .i64 (ks.getD t 0)))
    case atStart => exact ⟨k, k + 1, G, by omega, by omega, by omega, rfl, by go_num, O1, HR0, FL, FI, (show Hid _ from fun t _ ht => HGk.out t ht)⟩
    case round =>
      clear HR0 FI FL O1
      obtain ⟨i, j, G2, hij, hjL, hg1, rfl, rfl, O2, R2, L2, I2, J2⟩ := hrel
      have hkw : kb < wr.heap.size := R2.out.lt
      have hfz := R2.out.frozen
      by_cases hlt : j < L
      · have hlt2 : (j : Int) < (L : Int) := by omega
        have cj := R2.out.cell (i := j) (by omega)
        rw [J2.out j (Nat.le_refl _) hlt] at cj
        have ci := R2.out.cell (i := i) (by omega)
        have hcall := HT.out (ks.getD j 0) (by rw [getD_elem ks 0 (by rw [HL.out]; exact hlt)]; exact List.getElem_mem _) wr O2.out
        have FS := flt_succ p ks j (by rw [HL.out]; exact hlt)
        generalize hy : ks.getD j 0 = y at *
        have HY : Hid _ := hy
        clear hy
        cases hq : p y with
        | true =>
          rw [hq] at hcall FS
          rw [if_pos rfl, List.append_nil] at FS
          have HFS : Hid _ := FS
          clear FS
          go_wp2_with (go_at_fn K; refine hcall.mono ?_; rintro e w2 ⟨rfl, hb2⟩)
          go_roundg (L - (j + 1))
          case measure => omega
          case rel => exact ⟨i, j + 1, G2, by omega, by omega, by omega, rfl, by go_num, O2.out.trans (Off.of_below hb2), R2.out.of_block (hb2.block kb hkw), (show _ = _ by rw [HFS.out]; exact L2.out), (show Hid _ from fun t ht => by rw [HFS.out]; exact I2.out t ht), (show Hid _ from fun t h1 h2 => J2.out t (by omega) h2)⟩
        | false =>
          rw [hq] at hcall FS
          rw [if_neg (by simp)] at FS
          have HFS : Hid _ := FS
          clear FS
          go_wp2_with (go_at_fn K; refine hcall.mono ?_; rintro e w2 ⟨rfl, hb2⟩; have ci2 := (hb2.cell (by exact hkw)).trans ci; have hfz2 := fun o => (hb2.frozen (by exact hkw)).trans (hfz o))
          go_roundg (L - (j + 1))
          case measure => omega
          case rel =>
            refine ⟨i + 1, j + 1, _, by omega, by omega, by omega, by go_num, by go_num, (O2.out.trans (Off.of_below hb2)).trans (off_setCell (X := fun b => b = kb) _ rfl _), (R2.out.of_block (hb2.block kb hkw)).set i (.int .i64 y), (show _ = _ by rw [HFS.out, List.length_append, L2.out]; rfl), (show Hid _ from fun t ht => ?_), (show Hid _ from fun t h1 h2 => ?_)⟩
            · rw [HFS.out]
              by_cases e : t = i
              · subst e
                rw [if_pos rfl]
                simp [List.getD, L2.out]
              · rw [if_neg e, I2.out t (by omega)]
                simp [List.getD, List.getElem?_append, L2.out, show t < i by omega]
            · rw [if_neg (by omega)]
              exact J2.out t (by omega) h2
      · have hjL2 : j = L := by omega
        subst hjL2
        have hic : (i : Int) ≤ (cap : Int) := by omega
        have hiL : (i : Int) ≤ (j : Int) := by omega
        have EF : Hid (flt p (ks.take j) = flt p ks) := by
          show _ = _
          rw [← HL.out, List.take_length]
        have hcl : ∀ ty, (Builtin.clear_ #[41] ty #[.slice (some ⟨kb, i, none⟩) (j - i) (cap - i)]).run Try.prog wr = .ok (.tuple #[]) (wr.setCells kb i (List.replicate (j - i) (.int .i64 0))) := fun ty => Lib.run_clear_slice wr 41 3 ty (.int .i64 0) Try.underlying41 Try.zeroValue3 rfl rfl kb i (j - i) (cap - i) (by omega) (fun t ht => by rw [R2.out.cell (by omega)]; rfl) (fun t ht => hfz _)
        go_wp2
        go_ret
        refine ⟨?_, O2.out.trans (off_setCells (X := fun b => b = kb) rfl _ _ _), _, row_setCells _ _ _ _ R2.out, fun t ht => ?_⟩
        · rw [← EF.out, L2.out]; rfl
        · rw [← EF.out, L2.out] at ht
          rw [if_neg (by omega), I2.out t ht, EF.out]

theorem deleteFunc_nil (K : Nat) (caps : Array Value) (w : World) (eg : ∀ args w, (callFunc K args).run Try.prog w = .ok (.enter K args) w) :
    Calls Try.prog 68 #[.slice none 0 0, .func (.func K) #[] caps] w fun e w' => e = .returned (.slice none 0 0) ∧ Below w.heap.size w w' := by
  have di := indexFunc_in K caps (fun _ => true) none 0 [] w (by simp) (fun i hi => absurd hi (Nat.not_lt_zero _)) eg (fun x hx => by cases hx)
  go_enter Try.func68, Try.ntmps68
  go_wp2_with fail
  refine di.mono ?_
  rintro e w1 ⟨r, rfl, hb1, hr⟩
  have hr1 : r = -1 := by
    rcases hr with ⟨h, _⟩ | ⟨k, hk, _⟩
    · exact h
    · exact absurd hk (Nat.not_lt_zero _)
  subst hr1
  clear hr di
  go_wp2
  go_ret
  exact ⟨rfl, hb1⟩
end Go.Proofs.Ytkcclfilpchgkaa

namespace Go.Proofs.Ytkcclfilpchgkaa
open Go.RowKit

theorem ownsRow_base {w : World} {B B' e size n : Nat} {v : Value} {xs : List Value} (h : w.ownsRow B e size v n xs) (hB : B' ≤ B) : w.ownsRow B' e size v n xs := by
  obtain ⟨h1, h2⟩ := h
  refine ⟨h1, ?_⟩
  rcases h2 with h2 | ⟨g, cap, cur, h3, h4, h5⟩
  · exact Or.inl h2
  · exact Or.inr ⟨g, cap, cur, h3, Nat.le_trans hB h4, h5⟩

theorem infoBool : (Try.prog.info? 4).map (fun i => (i.zero, i.size, i.bytes)) = some (some (.bool false), 1, 1) := by kernel_rfl

theorem makeBools (n : Nat) (hn : n ≤ 24) (w : World) : (Instr.makeSlice 112 (.int .i64 (n : Int)) (.int .i64 (n : Int))).run Try.prog w = .ok (.slice (some ⟨w.heap.size, 0, none⟩) n n) (w.alloc (.cells (madeCells #[.bool false] n) 4)) :=
  run_make_row' (P := Try.prog) 112 4 (.bool false) 1 Try.underlying112 infoBool rfl .i64 .i64 n (by omega) (by omega) w

theorem row_of_own {w : World} {B g n cap : Nat} {ks : List Int} (h : w.ownsRow B 3 1 (.slice (some ⟨g, 0, none⟩) n cap) n (ks.map (Value.int .i64))) : B ≤ g ∧ n ≤ cap ∧ cap ≤ maxLen ∧ ks.length = n ∧ ∃ G, w.rowIs g 3 cap G ∧ ∀ j, j < n → G j = .int .i64 (ks.getD j 0) := by
  obtain ⟨hl, h⟩ := h
  rw [List.length_map, Nat.mul_one] at hl
  rcases h with ⟨h, _⟩ | ⟨g', cap', cur, e, h1, h2, h3, h4, h5, h6⟩
  · cases h
  · cases e
    rw [Nat.mul_one] at h5 h6
    refine ⟨h1, h3, h4, hl, fun j => cur[j]?.getD undef, ⟨cur, h2, h5, fun i hi => ?_⟩, fun j hj => ?_⟩
    · show cur[i]? = some (cur[i]?.getD undef)
      rw [Array.getElem?_eq_getElem (by omega)]
      rfl
    · have h7 : (cur.toList.take n)[j]? = (ks.map (Value.int .i64))[j]? := by rw [h6]
      rw [List.getElem?_take, if_pos hj, List.getElem?_map, List.getElem?_eq_getElem (l := ks) (by omega)] at h7
      show cur[j]?.getD undef = _
      rw [← Array.getElem?_toList, h7, getD_elem ks 0 (by omega)]
      rfl

theorem own_slice {w : World} {B : Nat} {v : Value} {ks : List Int} (h : w.ownsRow B 3 1 v ks.length (ks.map (Value.int .i64))) : ∃ pa pc, v = .slice pa ks.length pc ∧ IntsAt w pa ks ∧ (∀ k, v.ownBlock = some k → B ≤ k ∧ k < w.heap.size) := by
  have hlt := h.lt
  rcases h.2 with ⟨e, e0⟩ | ⟨g, cap, cur, e, _⟩
  · have hk : ks = [] := List.length_eq_zero_iff.1 e0
    subst hk
    exact ⟨none, 0, e, fun i hi => absurd hi (Nat.not_lt_zero _), hlt⟩
  · subst e
    obtain ⟨_, h2, _, _, G, hG, hGk⟩ := row_of_own h
    exact ⟨some ⟨g, 0, none⟩, cap, rfl, ints_of_row hG h2 hGk, hlt⟩

end Go.Proofs.Ytkcclfilpchgkaa

namespace Go.Proofs.Ytkcclfilpchgkaa
open Go.RowKit

theorem own_below {w w' : World} {B : Nat} {v : Value} {l : List Int} (h : w.ownsRow B 3 1 v l.length (l.map (Value.int .i64))) (hb : Below w.heap.size w w') : w'.ownsRow B 3 1 v l.length (l.map (Value.int .i64)) :=
  h.kept (row := none) ⟨hb.os, hb.tape, hb.output, hb.size, fun k hk _ => hb.block k hk⟩ (by
    cases hv : v.ownBlock with
    | none => exact Or.inl rfl
    | some k => exact Or.inr (fun e => by cases e))

set_option maxRecDepth 100000 in
set_option maxHeartbeats 4000000 in
theorem rLine_any (a : Option Addr) (c : Nat) (S : List Nd) (k : Int) (w : World) (hN : S.length ≤ 24) (hS : NdsAt w a S) :
    Calls Try.prog 32 #[.agg #[.slice a S.length c], .int .i64 k] w fun e w' => ∃ v, e = .returned v ∧ Below w.heap.size w w' ∧ w'.ownsRow w.heap.size 3 1 v (lineF S (S.length + 1) k).length ((lineF S (S.length + 1) k).map (Value.int .i64)) := by
  obtain ⟨i0, hi0, hz0, hz1, hz2⟩ := info_parts info3
  have HS : Hid (NdsAt w a S) := hS
  have LF : Hid (∀ f (y : Nat), y < S.length → lineF S (f + 1) (y : Int) = (y : Int) :: lineF S f (rightUnder (nd S y))) := fun f y hy => by rw [lineF, if_pos (isPl_nat.2 hy), Int.toNat_natCast]
  have LN : Hid (∀ f (x : Int), ¬ (0 ≤ x ∧ x < (S.length : Int)) → lineF S f x = []) := fun f x hx => by
    cases f with
    | zero => rfl
    | succ f =>
      rw [lineF, if_neg]
      intro h
      have h2 : 0 ≤ x ∧ x ≤ (S.length : Int) - 1 := of_decide_eq_true h
      exact hx (by omega)
  obtain ⟨L0, hL0⟩ : ∃ l, lineF S (S.length + 1) k = l := ⟨_, rfl⟩
  rw [hL0]
  have E0 : Hid (L0 = [] ++ lineF S (S.length + 1 - 0) k) := (by rw [← hL0]; rfl : L0 = [] ++ lineF S (S.length + 1 - 0) k)
  clear hS hL0
  obtain ⟨n, hn⟩ : ∃ n, S.length = n := ⟨_, rfl⟩
  have HN : Hid (S.length = n) := hn
  rw [hn] at hN E0 LF LN ⊢
  clear hn
  go_enter Try.func32, Try.ntmps32
  go_wp2_with fail
  go_loopg [1, 5] (n + 1) (fun g s1 s5 wr => ∃ (j : Nat) (x : Int) (l : List Int), j ≤ n + 1 ∧ (n + 1) - j ≤ g ∧ s1 = .int .i64 x ∧ l.length = j ∧ Hid (Below w.heap.size w wr) ∧ wr.cell? ⟨w.heap.size, 0, none⟩ = some (.slice a n c) ∧ w.heap.size < wr.heap.size ∧ Hid (wr.ownsRow (w.heap.size + 1) 3 1 s5 l.length (l.map (Value.int .i64))) ∧ Hid (L0 = l ++ lineF S (n + 1 - j) x))
  case atStart => exact ⟨0, k, [], by omega, by omega, rfl, rfl, (Below.refl _ _).alloc (Nat.le_refl _) _, by go_simp, by simp, World.ownsRow_nil _ _ _ _, E0⟩
  case round =>
    obtain ⟨j, x, l, hj, hg, rfl, hl, HB, cs, hsz, HO, HE⟩ := hrel
    obtain ⟨pa, pc, hv, _⟩ := own_slice HO.out
    subst hv
    clear E0
    obtain ⟨ln, hln⟩ : ∃ y, l.length = y := ⟨_, rfl⟩
    have HLN : Hid (l.length = ln) := hln
    rw [hln]
    have hlj : ln = j := by omega
    subst hlj
    have EXIT : Hid (lineF S (n + 1 - ln) x = [] → wr.ownsRow w.heap.size 3 1 (.slice pa ln pc) L0.length (L0.map (Value.int .i64))) := fun h => by
      have e := HE.out
      rw [h, List.append_nil] at e
      rw [e]
      have h2 := ownsRow_base HO.out (Nat.le_succ _)
      rw [hln] at h2
      rw [hln]
      exact h2
    have OWN : Hid (wr.ownsRow (w.heap.size + 1) 3 1 (.slice pa ln pc) ln (l.map (Value.int .i64))) := by have h2 := HO.out; rw [hln] at h2; exact h2
    clear hl hln HO
    by_cases hx : 0 ≤ x ∧ x < (n : Int)
    · obtain ⟨y, rfl⟩ : ∃ y : Nat, x = y := ⟨x.toNat, by omega⟩
      have hy : y < n := by omega
      obtain ⟨hx0, hx1⟩ := hx
      have b1 : decide ((0 : Int) ≤ (y : Int)) = true := decide_eq_true hx0
      have b2 : decide ((y : Int) < (n : Int)) = true := decide_eq_true hx1
      by_cases hjn : ln ≤ n
      · have b3 : decide ((ln : Int) ≤ (n : Int)) = true := decide_eq_true (by omega)
        have hjn2 : (ln : Int) ≤ (n : Int) := by omega
        have EQ : Hid (L0 = (l ++ [(y : Int)]) ++ lineF S (n + 1 - (ln + 1)) (rightUnder (nd S y))) := by
          have e := HE.out
          rw [show n + 1 - ln = (n + 1 - (ln + 1)) + 1 by omega, LF.out _ y hy] at e
          show L0 = _
          rw [e, List.append_assoc]
          rfl
        obtain ⟨r, hr⟩ : ∃ r, rightUnder (nd S y) = r := ⟨_, rfl⟩
        have d2 := fun (v : Value) W => rRightUnder_any (nd S y) v W
        rw [show (if (nd S y).h = -1 then (nd S y).p else (nd S y).h) = r from hr] at d2
        have RUy : Hid _ := d2
        rw [hr] at EQ
        clear HE EXIT d2 hr
        have OB : Hid (∀ k, (Value.slice pa ln pc).ownBlock = some k → w.heap.size + 1 ≤ k) := fun k hk => (OWN.out.lt k hk).1
        go_wp2_with (at_builtin; refine wpList_append_own _ rfl _ _ 41 rfl (w.heap.size + 1) 3 i0 (.int .i64 0) 1 8 Try.underlying41 hi0 hz0 hz1 hz2 rfl (by decide) _ _ _ rfl (OWN.out.alloc _) ⟨wr.heap.size, 0, none⟩ 1 1 [.int .i64 (y : Int)] rfl rfl ?c1 ?c2 ?c3 ?c4 ?c5 ?_)
        case c2 => first | rfl | (intro u hu; simp at hu; subst hu; rfl) | simp
        case c3 => unfold maxLen; omega
        case c4 => omega
        case c5 => first | omega | (simp; omega)
        case c1 => first | (go_simp; done) | (intro j u hj; match j, hj with | 0, hj => (cases hj; go_simp) | (j + 1), hj => simp at hj)
        intro v' w2 hown' hgrow _
        obtain ⟨g', cap', rfl⟩ : ∃ g' cap', v' = .slice (some ⟨g', 0, none⟩) (ln + 1) cap' := by
          rcases hown'.2 with ⟨_, h⟩ | ⟨g', cap', cur, h, _⟩
          · omega
          · exact ⟨g', cap', h⟩
        have hb2 : Below (w.heap.size + 1) wr w2 := ((Below.refl _ wr).alloc (by omega) _).grown hgrow (by simp; omega) (fun k hk => OB.out k hk)
        have HB2 : Hid (Below w.heap.size w w2) := HB.out.trans (hb2.mono (by omega))
        have cs2 := (hb2.cell (p := ⟨w.heap.size, 0, none⟩) (by show w.heap.size < _; omega)).trans cs
        have hsz2 := World.block_lt_of_cell? _ _ cs2
        obtain ⟨nb, no, ea, k0, k1, k2, k3, k4, ⟨ka, kc, k5, _⟩, k6, k7⟩ := (HS.out.below HB2.out) y (by rw [HN.out]; exact hy)
        subst ea
        have hnb := World.block_lt_of_cell? _ _ k0
        have HO2 : Hid (w2.ownsRow (w.heap.size + 1) 3 1 (.slice (some ⟨g', 0, none⟩) (ln + 1) cap') (l ++ [(y : Int)]).length ((l ++ [(y : Int)]).map (Value.int .i64))) := by
          have h2 := hown'
          rw [show (l ++ [(y : Int)]).length = ln + 1 by simp [HLN.out], List.map_append]
          exact h2
        have HL2 : Hid ((l ++ [(y : Int)]).length = ln + 1) := (by simp [HLN.out] : (l ++ [(y : Int)]).length = ln + 1)
        clear hown' hgrow hb2 cs OWN
        go_wp2_with fail
        refine Calls.mono (RUy.out _ _) ?_
        rintro e w3 ⟨rfl, hb3⟩
        have HB3 : Hid (Below w.heap.size w w3) := HB2.out.trans (hb3.mono HB2.out.size)
        have cs3 := (hb3.cell (p := ⟨w.heap.size, 0, none⟩) hsz2).trans cs2
        have HO3 : Hid _ := own_below HO2.out hb3
        have hs3 := hb3.size
        clear hb3 k0 k1 k2 k3 k4 k5 k6 k7 cs2
        go_wp2
        go_roundg ((n + 1) - (ln + 1))
        case measure => omega
        case rel => exact ⟨ln + 1, _, l ++ [(y : Int)], by omega, by omega, rfl, HL2.out, HB3, cs3, by omega, HO3, EQ⟩
      · have hjn2 : ¬ (ln : Int) ≤ (n : Int) := by omega
        have b3 : decide ((ln : Int) ≤ (n : Int)) = false := decide_eq_false hjn2
        have hz : n + 1 - ln = 0 := by omega
        have OW : Hid _ := EXIT.out (by rw [hz]; rfl)
        clear EXIT HE OWN
        go_wp2
        go_ret
        exact ⟨_, rfl, HB.out, OW.out⟩
    · have OW : Hid _ := EXIT.out (LN.out _ _ hx)
      clear EXIT HE OWN
      by_cases h0 : 0 ≤ x
      · have h1 : ¬ x < (n : Int) := fun h => hx ⟨h0, h⟩
        have b1 : decide ((0 : Int) ≤ x) = true := decide_eq_true h0
        have b2 : decide (x < (n : Int)) = false := decide_eq_false h1
        clear hx
        go_wp2
        go_ret
        exact ⟨_, rfl, HB.out, OW.out⟩
      · have b1 : decide ((0 : Int) ≤ x) = false := decide_eq_false h0
        clear hx
        go_wp2
        go_ret
        exact ⟨_, rfl, HB.out, OW.out⟩
end Go.Proofs.Ytkcclfilpchgkaa
