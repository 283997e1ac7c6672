/-
  The reference's CheckHearers.
-/
import Derived.Test.YtkcclfilpchgkaaJHa
import Derived.Test.YtkcclfilpchgkaaJSaBa
namespace Go.Proofs.Ytkcclfilpchgkaa
open Go.RowKit Go.ChangeShapes Go.WideShapes
set_option linter.unusedVariables false

theorem marks_congr {w : World} {b n : Nat} {f g : Int → Bool} (h : MarksAt w b n f) (e : ∀ k, f k = g k) : MarksAt w b n g := by
  have : f = g := funext e
  rw [← this]
  exact h

set_option maxHeartbeats 400000 in
theorem rbelow_any (x m : Int) (w : World) :
    Calls Try.prog 37 #[.int .i64 x, .int .i64 m] w fun e w' => e = .returned (.bool (decide (¬ (x < 0 ∨ m ≤ x)))) ∧ w' = w := by
  by_cases h1 : 0 ≤ x
  · have d1 : decide (0 ≤ x) = true := decide_eq_true h1
    by_cases h2 : x < m
    · have d2 : decide (x < m) = true := decide_eq_true h2
      have HR : Hid (decide (¬ (x < 0 ∨ m ≤ x)) = true) := decide_eq_true (by omega)
      clear h1 h2
      go_enter Try.func37, Try.ntmps37
      go_wp2_with fail
      go_ret
      exact ⟨by rw [HR.out]; rfl, rfl⟩
    · have d2 : decide (x < m) = false := decide_eq_false h2
      have HR : Hid (decide (¬ (x < 0 ∨ m ≤ x)) = false) := decide_eq_false (by omega)
      clear h1 h2
      go_enter Try.func37, Try.ntmps37
      go_wp2_with fail
      go_ret
      exact ⟨by rw [HR.out]; rfl, rfl⟩
  · have d1 : decide (0 ≤ x) = false := decide_eq_false h1
    have HR : Hid (decide (¬ (x < 0 ∨ m ≤ x)) = false) := decide_eq_false (by omega)
    clear h1
    go_enter Try.func37, Try.ntmps37
    go_wp2_with fail
    go_ret
    exact ⟨by rw [HR.out]; rfl, rfl⟩

set_option maxRecDepth 100000 in
set_option maxHeartbeats 2000000 in
theorem rhcheck_any (a : Option Addr) (c : Nat) (L : List Hr) (N : Int) (w : World) (hN : L.length ≤ 9223372036854775807) (hB : BigH L) (hL : HrsAt w a L) :
    Calls Try.prog 10 #[.slice a L.length c, .int .i64 N] w fun e w' => e = .returned (.int .i64 (hcheckE L N)) ∧ Below w.heap.size w w' := by
  by_cases hm : 24 < L.length
  · have e : hcheckE L N = 1 := by unfold hcheckE; rw [if_pos hm]
    rw [e]
    have hm2 : decide ((24 : Int) < (L.length : Int)) = true := decide_eq_true (by omega)
    clear hB hL e
    generalize L.length = n at *
    go_enter Try.func10, Try.ntmps10
    go_wp2_with fail
    go_ret
    exact ⟨rfl, Below.refl _ _⟩
  · have e : hcheckE L N = hErr N L 0 := by unfold hcheckE; rw [if_neg hm]
    rw [e]
    have HL : Hid (HrsAt w a L) := hL
    have HBG : Hid (BigH L) := hB
    have hm2 : decide ((24 : Int) < (L.length : Int)) = false := decide_eq_false (by omega)
    have ST : Hid (∀ i, i < L.length → hErr N L i = if (hr L i).pl < 0 ∨ N ≤ (hr L i).pl then 4 else if (hr L i).id ∈ idsF L i then 3 else hErr N L (i + 1)) := fun i hi => hErr_step hi
    have IS : Hid (∀ i, i < L.length → idsF L (i + 1) = idsF L i ++ [(hr L i).id]) := fun i hi => ids_step hi
    have EN : Hid (hErr N L L.length = 0) := hErr_end (Nat.le_refl _)
    have M0 : Hid (MarksAt (w.alloc (.map #[] 0)) w.heap.size 0 (fun x => decide (x ∈ idsF L 0))) := marks_congr (MarksAt.made w) (fun k => by simp [idsF])
    have DB : Hid (∀ x W, Calls _ _ _ _ _) := fun x W => rbelow_any x N W
    have hmm := @run_makeMap Try.prog
    clear hB hL e
    obtain ⟨E, hE⟩ : ∃ E, hErr N L 0 = E := ⟨_, rfl⟩
    have HE : Hid (hErr N L 0 = E) := hE
    rw [hE]
    clear hE
    obtain ⟨n, hn⟩ : ∃ n, L.length = n := ⟨_, rfl⟩
    have HN : Hid (L.length = n) := hn
    rw [hn] at hN hm hm2 ST IS EN ⊢
    clear hn
    go_enter Try.func10, Try.ntmps10
    go_wp2_with fail
    go_loopg [14] n (fun g s14 wr => ∃ i : Nat, i ≤ n ∧ n - i ≤ g ∧ s14 = .int .i64 i ∧ Hid (Below w.heap.size w wr) ∧ w.heap.size < wr.heap.size ∧ Hid (MarksAt wr w.heap.size i (fun x => decide (x ∈ idsF L i))) ∧ Hid (hErr N L i = E))
    case atStart => exact ⟨0, by omega, by omega, rfl, one_belowS _ _, by simp, M0, HE⟩
    case round =>
      obtain ⟨i, hi, hg, rfl, HBr, hsz, MK, HEi⟩ := hrel
      clear M0 HE
      by_cases hlt : i < n
      · have hlt2 : (i : Int) < (n : Int) := by omega
        obtain ⟨b, o, ea, c0, c1, c2, c3, c4⟩ := (HL.out.below HBr.out) i (by rw [HN.out]; exact hlt)
        subst ea
        have hwf := HBG.out i (by rw [HN.out]; exact hlt)
        have STi : Hid _ := (ST.out i hlt).symm.trans HEi.out
        have ISi : Hid _ := IS.out i hlt
        have q0 := World.block_lt_of_cell? _ _ c0
        generalize hr L i = x at *
        obtain ⟨xp, xd, xo, xs, xi⟩ := x
        dsimp only at c0 c1 c2 c3 c4 hwf STi ISi
        have HBA : Hid (∀ o1, Below w.heap.size w (wr.alloc o1)) := fun o1 => HBr.out.trans ((one_belowS wr o1).mono HBr.out.size)
        by_cases hp : xp < 0 ∨ N ≤ xp
        · have DBi := DB.out xp
          have d1 : decide (¬ (xp < 0 ∨ N ≤ xp)) = false := decide_eq_false (fun h => h hp)
          rw [d1] at DBi
          have DBx : Hid _ := DBi
          have HEE : Hid (4 = E) := by have h := STi.out; rwa [if_pos hp] at h
          clear STi hp d1 DBi
          go_wp2_with fail
          refine Calls.mono (DBx.out _) ?_
          rintro e w5 ⟨rfl, rfl⟩
          go_wp2_with fail
          go_ret
          exact ⟨by rw [HEE.out]; rfl, HBA.out _⟩
        · have DBi := DB.out xp
          have d1 : decide (¬ (xp < 0 ∨ N ≤ xp)) = true := decide_eq_true hp
          rw [d1] at DBi
          have DBx : Hid _ := DBi
          clear DBi d1
          have hlook : ∀ o1, (Instr.lookup 44 (.map (some w.heap.size)) (.int .i64 xi) false).run Try.prog (wr.alloc o1) = .ok (.bool (decide (xi ∈ idsF L i))) (wr.alloc o1) := fun o1 => (MK.out.kept ((one_belowS wr o1).block _ hsz)).look (t := 44) Try.underlying44 hwf
          by_cases hm3 : xi ∈ idsF L i
          · have HEE : Hid (3 = E) := by have h := STi.out; rwa [if_neg hp, if_pos hm3] at h
            rw [decide_eq_true hm3] at hlook
            clear STi hm3 hp
            go_wp2_with fail
            refine Calls.mono (DBx.out _) ?_
            rintro e w5 ⟨rfl, rfl⟩
            go_wp2_with fail
            go_ret
            exact ⟨by rw [HEE.out]; rfl, HBA.out _⟩
          · have HEE : Hid (hErr N L (i + 1) = E) := by have h := STi.out; rwa [if_neg hp, if_neg hm3] at h
            rw [decide_eq_false hm3] at hlook
            clear STi hm3 hp
            obtain ⟨W2, hW2⟩ : ∃ W2, wr.alloc (.cells #[.int .i64 xp, .bool xd, .bool xo, .bool xs, .int .i64 xi] 39) = W2 := ⟨_, rfl⟩
            have mk2 : MarksAt W2 w.heap.size i (fun x => decide (x ∈ idsF L i)) := by rw [← hW2]; exact MK.out.kept ((one_belowS wr _).block _ hsz)
            have hb2 : Below w.heap.size w W2 := by rw [← hW2]; exact HBA.out _
            have hs2 : wr.heap.size ≤ W2.heap.size := by rw [← hW2]; simp
            obtain ⟨w3, hput, mk3, gr3⟩ := mk2.put (t := 44) Try.underlying44 (by unfold maxLen; omega) hwf true
            rw [← hW2] at hput
            have MK3 : Hid (MarksAt w3 w.heap.size (i + 1) (fun x => decide (x ∈ idsF L (i + 1)))) := by
              refine marks_congr mk3 (fun k => ?_)
              rw [ISi.out]
              by_cases e : k = xi
              · simp [e]
              · simp [e]
            have HB3 : Hid (Below w.heap.size w w3) := hb2.grown gr3 hb2.size (fun k hk => by cases hk; exact Nat.le_refl _)
            have hs3 : w.heap.size < w3.heap.size := by have := gr3.size; omega
            clear mk2 mk3 gr3 hb2 hs2 hW2 MK
            go_wp2_with fail
            refine Calls.mono (DBx.out _) ?_
            rintro e w5 ⟨rfl, rfl⟩
            go_wp2_with fail
            go_roundg (n - (i + 1))
            case measure => omega
            case rel => exact ⟨i + 1, by omega, by omega, by go_num, HB3, hs3, MK3, HEE⟩
      · have hie : i = n := by omega
        subst hie
        have HEE : Hid ((0 : Int) = E) := EN.out.symm.trans HEi.out
        clear MK HEi
        go_wp2_with fail
        go_ret
        exact ⟨by rw [HEE.out]; rfl, HBr.out⟩
end Go.Proofs.Ytkcclfilpchgkaa

namespace Go.Proofs.Ytkcclfilpchgkaa
open Go.RowKit

set_option maxHeartbeats 400000 in
theorem within_any (x a b : Int) (w : World) :
    Calls Try.prog 72 #[.int .i64 x, .int .i64 a, .int .i64 b] w fun e w' => e = .returned (.bool (decide (a ≤ x ∧ x ≤ b))) ∧ w' = w := by
  by_cases h1 : a ≤ x
  · by_cases h2 : x ≤ b
    · have h : decide (a ≤ x ∧ x ≤ b) = true := by simp [h1, h2]
      rw [h]
      clear h
      go_enter Try.func72, Try.ntmps72
      go_wp2
      go_ret
      exact ⟨rfl, rfl⟩
    · have h : decide (a ≤ x ∧ x ≤ b) = false := by simp [h2]
      rw [h]
      clear h
      go_enter Try.func72, Try.ntmps72
      go_wp2
      go_ret
      exact ⟨rfl, rfl⟩
  · have h : decide (a ≤ x ∧ x ≤ b) = false := by simp [h1]
    rw [h]
    clear h
    go_enter Try.func72, Try.ntmps72
    go_wp2
    go_ret
    exact ⟨rfl, rfl⟩

theorem within_yes (x a b : Int) (w : World) (h1 : a ≤ x) (h2 : x ≤ b) :
    Calls Try.prog 72 #[.int .i64 x, .int .i64 a, .int .i64 b] w fun e w' => e = .returned (.bool true) ∧ w' = w := by
  have h := within_any x a b w
  rwa [decide_eq_true (by exact ⟨h1, h2⟩)] at h

theorem within_no (x a b : Int) (w : World) (h1 : x < a ∨ b < x) :
    Calls Try.prog 72 #[.int .i64 x, .int .i64 a, .int .i64 b] w fun e w' => e = .returned (.bool false) ∧ w' = w := by
  have h := within_any x a b w
  rwa [decide_eq_false (by omega)] at h

set_option maxHeartbeats 400000 in
theorem unused_any (n : Int) (w : World) :
    Calls Try.prog 73 #[.int .i64 n] w fun e w' => e = .returned (.agg #[.bool false, .int .i64 n, .int .i64 0, .int .i64 0, .int .i64 (-1), .slice none 0 0, .int .i64 (-1), .bool false]) ∧ w' = w.alloc (.cells #[.bool false, .int .i64 n, .int .i64 0, .int .i64 0, .int .i64 (-1), .slice none 0 0, .int .i64 (-1), .bool false] 52) := by
  go_enter Try.func73, Try.ntmps73
  go_wp2
  exact bodyPost_ret (v := .agg #[.bool false, .int .i64 n, .int .i64 0, .int .i64 0, .int .i64 (-1), .slice none 0 0, .int .i64 (-1), .bool false]) (by simp [results, Try.results73, go_sem]) rfl ⟨rfl, rfl⟩

/-- A number that is a place of N, or -1. -/
def okPl (N x : Int) : Bool := decide (-1 ≤ x ∧ x ≤ N - 1)

set_option maxHeartbeats 400000 in
theorem wrong_any (x N : Int) (b : Nat) (w : World) (hc : w.cell? ⟨b, 0, none⟩ = some (.int .i64 N)) (hN : 0 ≤ N ∧ N ≤ 24) :
    Calls Try.prog 93 #[.int .i64 x, .pointer (some ⟨b, 0, none⟩)] w fun e w' => e = .returned (.bool (!okPl N x)) ∧ w' = w := by
  have hw := within_any x (-1) (N - 1)
  rw [show decide (-1 ≤ x ∧ x ≤ N - 1) = okPl N x from rfl] at hw
  generalize okPl N x = r at hw
  go_enter Try.func93, Try.ntmps93
  go_wp2_with (go_at_call 72; refine (hw _).mono ?_; rintro e w' ⟨rfl, rfl⟩)
  go_ret
  exact ⟨rfl, rfl⟩

def rangeB (x : Nd) : Bool := decide (0 ≤ x.n ∧ x.n ≤ 1000000) && (decide (0 ≤ x.t ∧ x.t ≤ 99) && decide (-1000000 ≤ x.m ∧ x.m ≤ 1000000))

set_option maxHeartbeats 800000 in
theorem inRange_any (x : Nd) (k : Value) (w : World) :
    Calls Try.prog 89 #[.agg #[.bool x.u, .int .i64 x.n, .int .i64 x.t, .int .i64 x.m, .int .i64 x.p, k, .int .i64 x.h, .bool x.c]] w fun e w' => e = .returned (.bool (rangeB x)) ∧ Below w.heap.size w w' := by
  unfold rangeB
  have d1 := within_any x.n 0 1000000
  have d2 := within_any x.t 0 99
  have d3 := within_any x.m (-1000000) 1000000
  generalize decide (0 ≤ x.n ∧ x.n ≤ 1000000) = b1 at *
  generalize decide (0 ≤ x.t ∧ x.t ≤ 99) = b2 at *
  generalize decide (-1000000 ≤ x.m ∧ x.m ≤ 1000000) = b3 at *
  cases b1
  rotate_left
  cases b2
  rotate_left
  cases b3
  all_goals
    go_enter Try.func89, Try.ntmps89
    go_wp2_with (first | (go_at_call_of 72 (Value.int .i64 x.n); refine (d1 _).mono ?_; rintro e w' ⟨rfl, rfl⟩) | (go_at_call_of 72 (Value.int .i64 x.t); refine (d2 _).mono ?_; rintro e w' ⟨rfl, rfl⟩) | (go_at_call_of 72 (Value.int .i64 x.m); refine (d3 _).mono ?_; rintro e w' ⟨rfl, rfl⟩))
    go_ret
    exact ⟨rfl, (Below.refl _ _).alloc (Nat.le_refl _) _⟩

def namesB (N : Int) (x : Nd) : Bool := okPl N x.p && (okPl N x.h && !(x.ks.any fun k => !okPl N k))

set_option maxHeartbeats 1600000 in
theorem namesPlaces_any (x : Nd) (ka : Option Addr) (kc : Nat) (N : Int) (w : World) (hN : 0 ≤ N ∧ N ≤ 24) (hbig : x.ks.length ≤ 9223372036854775807) (hks : IntsAt w ka x.ks) :
    Calls Try.prog 90 #[.agg #[.bool x.u, .int .i64 x.n, .int .i64 x.t, .int .i64 x.m, .int .i64 x.p, .slice ka x.ks.length kc, .int .i64 x.h, .bool x.c], .int .i64 N] w fun e w' => e = .returned (.bool (namesB N x)) ∧ Below w.heap.size w w' := by
  unfold namesB
  have d1 := wrong_any x.p N
  have d2 := wrong_any x.h N
  have hT : ∀ w1 : World, w1.cell? ⟨w.heap.size + 1, 0, none⟩ = some (.int .i64 N) → Tells 93 #[.pointer (some ⟨w.heap.size + 1, 0, none⟩)] (fun k => !okPl N k) w1 := fun w1 h1 y w2 hb2 =>
    (wrong_any y N (w.heap.size + 1) w2 ((hb2.cell (World.block_lt_of_cell? w1 _ h1)).trans h1) hN).mono (fun e w3 h => ⟨h.1, by rw [h.2]; exact Below.refl _ _⟩)
  have d3 := fun (W : World) (hk : IntsAt W ka x.ks) (hc : W.cell? ⟨w.heap.size + 1, 0, none⟩ = some (.int .i64 N)) => containsFunc_any 93 #[.pointer (some ⟨w.heap.size + 1, 0, none⟩)] (fun k => !okPl N k) ka kc x.ks W hbig hk (enters_of Try.func93 (by kernel_rfl) rfl) (hT W hc)
  have hk2 : ∀ o1 o2, IntsAt ((w.alloc o1).alloc o2) ka x.ks := fun o1 o2 => hks.below (((Below.refl _ _).alloc (Nat.le_refl _) _).alloc (by simp) _)
  have K2 : Hid _ := hk2
  clear hk2 hks hT
  generalize okPl N x.p = b1 at *
  generalize okPl N x.h = b2 at *
  generalize (x.ks.any fun k => !okPl N k) = b3 at *
  cases b1
  rotate_left
  cases b2
  rotate_left
  cases b3
  all_goals
    go_enter Try.func90, Try.ntmps90
    go_wp2_with (first | (go_at_call_of 93 (Value.int .i64 x.p); refine (d1 _ _ (by go_simp) hN).mono ?_; rintro e w' ⟨rfl, rfl⟩) | (go_at_call_of 93 (Value.int .i64 x.h); refine (d2 _ _ (by go_simp) hN).mono ?_; rintro e w' ⟨rfl, rfl⟩) | (go_at_call 41; refine (d3 _ (K2.out _ _) (by go_simp)).mono ?_; rintro e w' ⟨rfl, hb⟩))
  all_goals go_ret
  all_goals first
    | exact ⟨rfl, ((Below.refl _ _).alloc (Nat.le_refl _) _).alloc (by simp) _⟩
    | exact ⟨rfl, (((Below.refl _ _).alloc (Nat.le_refl _) _).alloc (by simp) _).trans (hb.mono (by simp; omega))⟩

set_option maxHeartbeats 800000 in
theorem equal_any (a a' : Option Addr) (c c' : Nat) (ks ks' : List Int) (w : World) (hbig : ks.length ≤ 9223372036854775807) (h1 : IntsAt w a ks) (h2 : IntsAt w a' ks') :
    Calls Try.prog 96 #[.slice a ks.length c, .slice a' ks'.length c'] w fun e w' => e = .returned (.bool (decide (ks = ks'))) ∧ Below w.heap.size w w' := by
  by_cases hl : ks.length = ks'.length
  · have same : (∀ i, i < ks.length → ks.getD i 0 = ks'.getD i 0) → decide (ks = ks') = true := fun H => by
      refine decide_eq_true (List.ext_getElem hl fun i hi hi' => ?_)
      have := H i hi
      rwa [getD_elem _ _ hi, getD_elem _ _ hi'] at this
    have other : ∀ i, ks.getD i 0 ≠ ks'.getD i 0 → decide (ks = ks') = false := fun i H => decide_eq_false fun e => H (by rw [e])
    rw [← hl]
    have S : Hid _ := same
    have O : Hid _ := other
    clear same other
    generalize hn : ks.length = n at *
    go_enter Try.func96, Try.ntmps96
    go_wp2
    go_loopg [13] n (fun g s13 wr => ∃ k : Nat, k ≤ n ∧ n - k ≤ g ∧ s13 = .int .i64 k ∧ Below w.heap.size w wr ∧ Hid (∀ i, i < k → ks.getD i 0 = ks'.getD i 0))
    case atStart => exact ⟨0, Nat.zero_le _, by omega, rfl, Below.refl _ _, fun i hi => by omega⟩
    case round =>
      obtain ⟨k, hk, hg, rfl, hb, A⟩ := hrel
      by_cases hlt : k < n
      · obtain ⟨b, o, rfl, g1⟩ := (h1.below hb) k (by omega)
        obtain ⟨b', o', rfl, g2⟩ := (h2.below hb) k (by omega)
        clear h1 h2
        by_cases he : ks.getD k 0 = ks'.getD k 0
        · have E : Hid (ks.getD k 0 = ks'.getD k 0) := he
          rw [← he] at g2
          clear he
          generalize ks.getD k 0 = y at g1 g2
          go_wp2_with fail
          go_region
          all_goals go_wp2
          all_goals go_roundg (n - (k + 1))
          case measure => omega
          case rel =>
            refine ⟨k + 1, by omega, by omega, by go_num, hb.drew, (show Hid _ from fun i hi => ?_)⟩
            by_cases e : i = k
            · subst e
              exact E.out
            · exact A.out i (by omega)
        · have Z := O.out k he
          generalize ks.getD k 0 = y at g1 he
          generalize ks'.getD k 0 = y' at g2 he
          go_wp2_with fail
          go_region
          all_goals go_wp2
          all_goals go_ret
          rw [Z]
          exact ⟨rfl, hb.drew⟩
      · clear h1 h2
        have : k = n := by omega
        subst this
        go_wp2
        go_ret
        rw [S.out A.out]
        exact ⟨rfl, hb⟩
  · have hd : decide (ks = ks') = false := decide_eq_false fun e => hl (by rw [e])
    have hl' : ¬ ((ks.length : Int) = (ks'.length : Int)) := by omega
    rw [hd]
    clear h1 h2 hd
    generalize ks.length = n at *
    generalize ks'.length = n' at *
    go_enter Try.func96, Try.ntmps96
    go_wp2
    go_ret
    exact ⟨rfl, Below.refl _ _⟩
end Go.Proofs.Ytkcclfilpchgkaa
