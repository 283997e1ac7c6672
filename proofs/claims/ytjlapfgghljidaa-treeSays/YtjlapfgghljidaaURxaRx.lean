/-
  What an insertion does, as the reference reckons it, without the program.
-/
import Derived.Test.YtjlapfgghljidaaURw
import Derived.Test.YtjlapfgghljidaaUWbWdSrWfTm
import Derived.Test.YtjlapfgghljidaaUZaUeZp
import Derived.Test.YtjlapfgghljidaaUTl
import Derived.Deep.RegionHeld3
import Derived.Deep.DeepCutAuto
import Derived.BigQuiet
namespace Go.Proofs.Ytjlapfgghljidaa
open Go.RowKit

theorem climb_under (S : List Nd) (a : Int) : ∀ (f : Nat) (x : Int), climbF S rightUnder (underStep a) f x false = decide (a ∈ lineF S f x)
  | 0, _ => by simp [climbF, lineF]
  | f + 1, x => by
    by_cases hx : isPl S.length x = true
    · have e : lineF S (f + 1) x = x :: lineF S f (rightUnder (nd S x.toNat)) := by rw [lineF, if_pos hx]
      rw [e, climbF, if_pos hx]
      simp only [underStep]
      by_cases h : x = a
      · simp [h]
      · have h2 : ¬ a = x := fun e => h e.symm
        simp only [h, decide_false, Bool.not_false, if_true, List.mem_cons, h2, false_or]
        exact climb_under S a f _
    · have e : lineF S (f + 1) x = [] := by rw [lineF, if_neg hx]
      rw [e, climbF, if_neg hx]
      simp

theorem in_path {S : List Nd} {pa ch : Nat} (hpa : pa < S.length) : decide ((ch : Int) ∈ pathF S pa) = (decide ((pa : Int) = ch) || underB S pa ch) := by
  unfold pathF underB
  rw [if_pos (isPl_nat.2 hpa), Int.toNat_natCast, climb_under]
  by_cases h : (pa : Int) = ch
  · simp [h]
  · have h2 : ¬ (ch : Int) = pa := fun e => h e.symm
    simp [h, h2]

theorem fits_path {S : List Nd} {pa ch : Nat} (hpa : pa < S.length) : fitsB S ch pa = (decide ((nd S ch).h = -1) && !decide ((ch : Int) ∈ pathF S pa)) := by
  rw [in_path hpa]
  unfold fitsB
  cases decide ((pa : Int) = ch) <;> cases underB S pa ch <;> simp

def insL (next c : Int) (ks : List Int) : List Int := ks.flatMap fun k => if k = next then [c, k] else [k]

theorem insL_snoc (next c k : Int) (l : List Int) : insL next c (l ++ [k]) = insL next c l ++ (if k = next then [c, k] else [k]) := by
  unfold insL
  rw [List.flatMap_append]
  simp

theorem insL_len (next c : Int) : ∀ l : List Int, (insL next c l).length ≤ 2 * l.length
  | [] => by simp [insL]
  | k :: l => by
    have := insL_len next c l
    unfold insL at this ⊢
    rw [List.flatMap_cons, List.length_append]
    by_cases h : k = next
    · rw [if_pos h, List.length_cons, List.length_cons, List.length_cons, List.length_nil]; omega
    · rw [if_neg h, List.length_cons, List.length_cons, List.length_nil]; omega

theorem insL_none {next c : Int} : ∀ {l : List Int}, next ∉ l → insL next c l = l
  | [], _ => rfl
  | k :: l, h => by
    have h1 : ¬ k = next := fun e => h (by simp [e])
    have h2 := insL_none (next := next) (c := c) (l := l) (fun hm => h (List.mem_cons_of_mem _ hm))
    unfold insL at h2 ⊢
    rw [List.flatMap_cons, if_neg h1, h2]
    rfl

theorem insL_at {next c : Int} : ∀ {l : List Int} {i : Nat}, l.Nodup → i < l.length → l.getD i 0 = next → insL next c l = ins l i c
  | [], _, _, h, _ => by simp at h
  | k :: l, 0, hn, _, h => by
    have e : k = next := by simpa using h
    subst e
    have := insL_none (next := k) (c := c) (List.nodup_cons.1 hn).1
    unfold insL at this ⊢
    rw [List.flatMap_cons, if_pos rfl, this]
    simp [ins]
  | k :: l, i + 1, hn, hi, h => by
    have hl : l.getD i 0 = next := by simpa using h
    have hi2 : i < l.length := by simpa using hi
    have hm : next ∈ l := by rw [← hl, getD_elem l 0 hi2]; exact List.getElem_mem _
    have hk : ¬ k = next := fun e => (List.nodup_cons.1 hn).1 (by rw [e]; exact hm)
    have := insL_at (c := c) (List.nodup_cons.1 hn).2 hi2 hl
    unfold insL at this ⊢
    rw [List.flatMap_cons, if_neg hk, this]
    simp [ins]

theorem ins_end (l : List Int) (c : Int) : ins l l.length c = l ++ [c] := by simp [ins]

/-- The store with ch no more among its Parent's children (its own Parent stays). -/
def outS (S : List Nd) (ch : Nat) : List Nd := if (nd S ch).p = -1 then S else S.set (nd S ch).p.toNat ⟨(nd S (nd S ch).p.toNat).u, (nd S (nd S ch).p.toNat).n, (nd S (nd S ch).p.toNat).t, (nd S (nd S ch).p.toNat).m, (nd S (nd S ch).p.toNat).p, woF ch (nd S (nd S ch).p.toNat).ks, (nd S (nd S ch).p.toNat).h, (nd S (nd S ch).p.toNat).c⟩

theorem outS_length (S : List Nd) (ch : Nat) : (outS S ch).length = S.length := by
  unfold outS
  split <;> simp

theorem nd_outS {S : List Nd} {ch : Nat} (hp0 : (nd S ch).p = -1 ∨ ∃ p0 : Nat, p0 < S.length ∧ p0 ≠ ch ∧ (nd S ch).p = p0) {j : Nat} (hj : j < S.length) :
    nd (outS S ch) j = ⟨(nd (leaveG S ch) j).u, (nd (leaveG S ch) j).n, (nd (leaveG S ch) j).t, (nd (leaveG S ch) j).m, (nd S j).p, (nd (leaveG S ch) j).ks, (nd (leaveG S ch) j).h, (nd (leaveG S ch) j).c⟩ := by
  unfold outS leaveG
  rcases hp0 with h | ⟨p0, h1, h2, h3⟩
  · rw [if_pos h, if_pos h]
  · have hn : ¬ (nd S ch).p = -1 := by omega
    rw [if_neg hn, if_neg hn, h3, Int.toNat_natCast, nd_leaveS S p0 ch j hj, nd_set S p0 j _ h1]
    unfold leaveNd
    by_cases e : j = ch
    · subst e
      rw [if_neg (fun e => h2 e.symm), if_pos rfl]
    · by_cases e2 : j = p0
      · subst e2
        rw [if_pos rfl, if_neg e, if_pos rfl]
        rfl
      · rw [if_neg e2, if_neg e, if_neg e2]

def moveS (S : List Nd) (pa ch : Nat) : List Nd := (outS S ch).set ch ⟨(nd (outS S ch) ch).u, (nd (outS S ch) ch).n, (nd (outS S ch) ch).t, (nd (outS S ch) ch).m, (pa : Int), (nd (outS S ch) ch).ks, (nd (outS S ch) ch).h, (nd (outS S ch) ch).c⟩

theorem moveS_length (S : List Nd) (pa ch : Nat) : (moveS S pa ch).length = S.length := by
  unfold moveS
  rw [List.length_set, outS_length]

theorem moveS_ks {S : List Nd} {pa ch : Nat} (hp0 : (nd S ch).p = -1 ∨ ∃ p0 : Nat, p0 < S.length ∧ p0 ≠ ch ∧ (nd S ch).p = p0) (hpa : pa < S.length) (hch : ch < S.length) (hne : pa ≠ ch) : nd (moveS S pa ch) pa = nd (outS S ch) pa ∧ (nd (moveS S pa ch) pa).ks = (nd (leaveG S ch) pa).ks := by
  have e : nd (moveS S pa ch) pa = nd (outS S ch) pa := by
    unfold moveS
    rw [nd_set _ ch pa _ (by rw [outS_length]; exact hch), if_neg hne]
  exact ⟨e, by rw [e, nd_outS hp0 hpa]⟩

theorem enter_sets {S : List Nd} {pa ch at' : Nat} (hp0 : (nd S ch).p = -1 ∨ ∃ p0 : Nat, p0 < S.length ∧ p0 ≠ ch ∧ (nd S ch).p = p0) (hpa : pa < S.length) (hch : ch < S.length) (hne : pa ≠ ch) :
    (moveS S pa ch).set pa ⟨(nd (moveS S pa ch) pa).u, (nd (moveS S pa ch) pa).n, (nd (moveS S pa ch) pa).t, (nd (moveS S pa ch) pa).m, (nd (moveS S pa ch) pa).p, ins (nd (leaveG S ch) pa).ks at' ch, (nd (moveS S pa ch) pa).h, (nd (moveS S pa ch) pa).c⟩ = enterS (leaveG S ch) pa ch at' := by
  have hl := leaveG_length S ch
  refine List.ext_getElem (by rw [List.length_set, moveS_length, enterS_length, hl]) (fun i h1 h2 => ?_)
  have hi : i < S.length := by rw [List.length_set, moveS_length] at h1; exact h1
  have e1 := nd_enterS (leaveG S ch) pa ch at' i (by rw [hl]; exact hi)
  rw [nd_elem (by rw [enterS_length, hl]; exact hi)] at e1
  have e2 := nd_set (moveS S pa ch) pa i ⟨(nd (moveS S pa ch) pa).u, (nd (moveS S pa ch) pa).n, (nd (moveS S pa ch) pa).t, (nd (moveS S pa ch) pa).m, (nd (moveS S pa ch) pa).p, ins (nd (leaveG S ch) pa).ks at' ch, (nd (moveS S pa ch) pa).h, (nd (moveS S pa ch) pa).c⟩ (by rw [moveS_length]; exact hpa)
  rw [nd_elem h1] at e2
  rw [e1, e2]
  unfold enterNd
  by_cases e : i = pa
  · subst e
    rw [if_pos rfl, if_neg hne, if_pos rfl, (moveS_ks hp0 hpa hch hne).1, nd_outS hp0 hpa, leaveG_p S hpa, if_neg hne]
  · rw [if_neg e]
    by_cases e3 : i = ch
    · subst e3
      rw [if_pos rfl]
      unfold moveS
      rw [nd_set _ i i _ (by rw [outS_length]; exact hch), if_pos rfl, nd_outS hp0 hch]
    · rw [if_neg e3, if_neg e]
      unfold moveS
      rw [nd_set _ ch i _ (by rw [outS_length]; exact hch), if_neg e3, nd_outS hp0 hi]
      have := leaveG_p S (ch := ch) (j := i) hi
      rw [if_neg e3] at this
      rw [← this]
end Go.Proofs.Ytjlapfgghljidaa

namespace Go.Proofs.Ytjlapfgghljidaa
open Go.RowKit

set_option maxHeartbeats 400000 in
theorem insBad_any (E : Int) (w : World) : Calls Try.prog 65 #[.int .i64 E] w fun e w' => e = .returned (.tuple #[.agg #[.slice none 0 0], .int .i64 E]) ∧ Below w.heap.size w w' := by
  go_enter Try.func65, Try.ntmps65
  go_wp2
  refine bodyPost_ret (v := .tuple #[.agg #[.slice none 0 0], .int .i64 E]) (by simp [results, Try.results65, go_sem]) rfl ⟨rfl, ?_⟩
  first
    | exact one_belowS _ _
    | exact (one_belowS _ _).setCell (by simp) _
    | exact ((one_belowS _ _).setCell (by simp) _).drew

theorem rins_low {w w1 : World} {a : Option Addr} {n c : Nat} {P pu C cu : Int} (hb : Below (w.heap.size + 1 + 1 + 1 + 1) ((((w.alloc (.cells #[.slice a n c] 24)).alloc (.cells #[.int .i64 P, .int .i64 pu] 26)).alloc (.cells #[.int .i64 C, .int .i64 cu] 26)).alloc (.cells #[.slice none 0 0] 24)) w1) :
    (w1.cell? ⟨w.heap.size, 0, none⟩ = some (.slice a n c) ∧ w1.cell? ⟨w.heap.size + 1, 0, none⟩ = some (.int .i64 P) ∧ w1.cell? ⟨w.heap.size + 1 + 1, 0, none⟩ = some (.int .i64 C) ∧ w1.cell? ⟨w.heap.size + 1 + 1 + 1, 0, none⟩ = some (.slice none 0 0)) ∧ ((∀ o, w1.frozen? ⟨w.heap.size, o, none⟩ = false) ∧ ∀ o, w1.frozen? ⟨w.heap.size + 1 + 1 + 1, o, none⟩ = false) ∧ w.heap.size + 4 ≤ w1.heap.size ∧ Below w.heap.size w w1 := by
  have hs := hb.size
  simp only [World.size_alloc] at hs
  refine ⟨⟨?_, ?_, ?_, ?_⟩, ⟨fun o => ?_, fun o => ?_⟩, by omega, (four_below _ _ _ _ _).trans (hb.mono (by omega))⟩
  all_goals first | exact (hb.cell (by first | (simp; done) | (simp; omega))).trans (by go_simp) | exact (hb.frozen (by first | (simp; done) | (simp; omega))).trans (by go_simp)

set_option maxRecDepth 100000 in
set_option maxHeartbeats 1000000 in
theorem rIns_many (a : Option Addr) (c n : Nat) (P C pu cu : Int) (ha : Option Addr) (hc m : Nat) (w : World) (hm : 1 < m) :
    Calls Try.prog 28 #[.agg #[.slice a n c], .agg #[.int .i64 P, .int .i64 pu], .agg #[.int .i64 C, .int .i64 cu], .slice ha m hc] w fun e w' => e = .returned (.tuple #[.agg #[.slice none 0 0], .int .i64 3]) ∧ Below w.heap.size w w' := by
  have DB : Hid _ := insBad_any
  have hm2 : (1 : Int) < (m : Int) := by omega
  have hm3 : decide ((1 : Int) < (m : Int)) = true := decide_eq_true hm2
  go_enter Try.func28, Try.ntmps28
  go_wp2_with fail
  refine Calls.mono (DB.out _ _) ?_
  rintro e wb ⟨rfl, hbb⟩
  have HBb : Hid (Below (w.heap.size + 1 + 1 + 1 + 1) ((((w.alloc (.cells #[.slice a n c] 24)).alloc (.cells #[.int .i64 P, .int .i64 pu] 26)).alloc (.cells #[.int .i64 C, .int .i64 cu] 26)).alloc (.cells #[.slice none 0 0] 24)) wb) := (by simpa using hbb : Below (w.heap.size + 1 + 1 + 1 + 1) ((((w.alloc (.cells #[.slice a n c] 24)).alloc (.cells #[.int .i64 P, .int .i64 pu] 26)).alloc (.cells #[.int .i64 C, .int .i64 cu] 26)).alloc (.cells #[.slice none 0 0] 24)) wb)
  obtain ⟨⟨l0, l1, l2, l3⟩, ⟨z0, z3⟩, hsz, hB⟩ := rins_low HBb.out
  have q3 : w.heap.size + 1 + 1 + 1 < wb.heap.size := by omega
  have HBc : Hid _ := hB
  clear hbb hB
  go_wp2_with fail
  refine bodyPost_ret (v := .tuple #[.agg #[.slice none 0 0], .int .i64 3]) (by simp [results, Try.results28, go_sem, l3]) rfl ⟨rfl, ?_⟩
  first | exact HBc.out.setCell (by simp; omega) _ | exact (HBc.out.setCell (by simp; omega) _).drew

set_option maxRecDepth 100000 in
set_option maxHeartbeats 4000000 in
theorem rIns_err (a : Option Addr) (c : Nat) (S : List Nd) (P C pu cu : Int) (ha : Option Addr) (hc : Nat) (hs : List (Int × Int)) (E : Int) (w : World) (hN : S.length ≤ 9223372036854775807) (hC : RChk a c S) (hS : NdsAt w a S) (hH : HandsAt w ha hs) (hm : hs.length ≤ 1) (hE : tcheckE S ((P, pu) :: (C, cu) :: hs) = E) (hE0 : E ≠ 0) :
    Calls Try.prog 28 #[.agg #[.slice a S.length c], .agg #[.int .i64 P, .int .i64 pu], .agg #[.int .i64 C, .int .i64 cu], .slice ha hs.length hc] w fun e w' => e = .returned (.tuple #[.agg #[.slice none 0 0], .int .i64 E]) ∧ Below w.heap.size w w' := by
  have df := fun (W : World) (ha' : Option Addr) (hcc : Nat) (hW : NdsAt W a S) (hH' : HandsAt W ha' ((P, pu) :: (C, cu) :: hs)) => rFirst_any a c S ha' hcc ((P, pu) :: (C, cu) :: hs) W hN hC hW (by simp; omega) hH'
  rw [hE] at df
  have DF : Hid (∀ (W : World) (ha' : Option Addr) (hcc : Nat), NdsAt W a S → HandsAt W ha' ((P, pu) :: (C, cu) :: hs) → Calls Try.prog 47 #[.agg #[.slice a S.length c], .slice ha' (hs.length + 2) hcc] W fun e w' => e = .returned (.int .i64 E) ∧ Below W.heap.size W w') := df
  have HS : Hid (NdsAt w a S) := hS
  have HH : Hid (HandsAt w ha hs) := hH
  have DB : Hid _ := insBad_any
  obtain ⟨i0, hi0, hz0, hz1, hz2⟩ := info_parts info26
  clear hS hC df hE hH
  obtain ⟨m, hml⟩ : ∃ m, hs.length = m := ⟨_, rfl⟩
  have HM : Hid (hs.length = m) := hml
  rw [hml] at hm DF ⊢
  have hm2 : ¬ (1 : Int) < (m : Int) := by omega
  have hm3 : decide ((1 : Int) < (m : Int)) = false := decide_eq_false hm2
  obtain ⟨n, hn⟩ : ∃ n, S.length = n := ⟨_, rfl⟩
  have HN : Hid (S.length = n) := hn
  clear hml
  have hz : (E == 0) = false := by simp [hE0]
  have hzd : decide (E = 0) = false := decide_eq_false hE0
  rw [hn] at hN DF ⊢
  clear hn
  go_enter Try.func28, Try.ntmps28
  go_upto_region 4 with fail
  obtain ⟨W4, hW4⟩ : ∃ W4, W4 = ((((w.alloc (.cells #[.slice a n c] 24)).alloc (.cells #[.int .i64 P, .int .i64 pu] 26)).alloc (.cells #[.int .i64 C, .int .i64 cu] 26)).alloc (.cells #[.slice none 0 0] 24)) := ⟨_, rfl⟩
  rw [← hW4]
  have hb4 : Below (w.heap.size + 1 + 1 + 1 + 1) ((((w.alloc (.cells #[.slice a n c] 24)).alloc (.cells #[.int .i64 P, .int .i64 pu] 26)).alloc (.cells #[.int .i64 C, .int .i64 cu] 26)).alloc (.cells #[.slice none 0 0] 24)) W4 := by rw [hW4]; exact Below.refl _ _
  obtain ⟨l0, l1, l2, l3, l4, l5, l6⟩ := ins_low4 hb4
  have hsz4 : W4.heap.size = w.heap.size + 1 + 1 + 1 + 1 := by rw [hW4]; simp
  have HB4 : Hid (Below w.heap.size w W4) := (four_below _ _ _ _ _).trans (hb4.mono (by omega))
  have HBB : Hid (Below (w.heap.size + 1 + 1 + 1 + 1) ((((w.alloc (.cells #[.slice a n c] 24)).alloc (.cells #[.int .i64 P, .int .i64 pu] 26)).alloc (.cells #[.int .i64 C, .int .i64 cu] 26)).alloc (.cells #[.slice none 0 0] 24)) W4) := hb4
  clear hW4 hb4
  go_cut [11] (fun s11 wx => s11 = .int .i64 E ∧ Hid (Below (w.heap.size + 1 + 1 + 1 + 1) ((((w.alloc (.cells #[.slice a n c] 24)).alloc (.cells #[.int .i64 P, .int .i64 pu] 26)).alloc (.cells #[.int .i64 C, .int .i64 cu] 26)).alloc (.cells #[.slice none 0 0] 24)) wx))
  case first =>
    have ne0 := World.new_ne W4 _ l0
    have ne1 := World.new_ne W4 _ l1
    have ne2 := World.new_ne W4 _ l2
    have ne3 := World.new_ne W4 _ l3
    have ne4 := World.new_ne W4 _ l4
    cases hs with
    | nil =>
      have e0 : m = 0 := HM.out.symm
      subst e0
      cases ha with
      | none =>
        go_region_held3 (fun w'' => w''.cell? ⟨w.heap.size, 0, none⟩ = some (.slice a n c) ∧ w''.cell? ⟨w.heap.size + 1, 0, none⟩ = some (.int .i64 P) ∧ w''.cell? ⟨w.heap.size + 1, 1, none⟩ = some (.int .i64 pu) ∧ w''.cell? ⟨w.heap.size + 1 + 1, 0, none⟩ = some (.int .i64 C) ∧ w''.cell? ⟨w.heap.size + 1 + 1, 1, none⟩ = some (.int .i64 cu)) (go_keep) (first | (go_at_call 47; refine (DF.out _ _ 2 (HS.out.below (HB4.out.alloc (by omega) _).drew) (hands_two _ _ _ _ _ _ (by go_simp) (by go_simp) (by go_simp) (by go_simp))).mono ?_; rintro e w6 ⟨rfl, hb5⟩; have hB5 : Below (w.heap.size + 1 + 1 + 1 + 1) ((((w.alloc (.cells #[.slice a n c] 24)).alloc (.cells #[.int .i64 P, .int .i64 pu] 26)).alloc (.cells #[.int .i64 C, .int .i64 cu] 26)).alloc (.cells #[.slice none 0 0] 24)) w6 := (HBB.out.alloc (by omega) _).drew.trans (hb5.mono (by simp; omega)); obtain ⟨m0, m1, m2, m3, m4, m5, m6⟩ := ins_low4 hB5; have H6 : Hid (Below (w.heap.size + 1 + 1 + 1 + 1) ((((w.alloc (.cells #[.slice a n c] 24)).alloc (.cells #[.int .i64 P, .int .i64 pu] 26)).alloc (.cells #[.int .i64 C, .int .i64 cu] 26)).alloc (.cells #[.slice none 0 0] 24)) w6) := hB5; clear hb5 hB5))
        go_wp2_with fail
        go_meet
        case rel => exact ⟨rfl, H6⟩
      | some A0 =>
        go_region_held3 (fun w'' => w''.cell? ⟨w.heap.size, 0, none⟩ = some (.slice a n c) ∧ w''.cell? ⟨w.heap.size + 1, 0, none⟩ = some (.int .i64 P) ∧ w''.cell? ⟨w.heap.size + 1, 1, none⟩ = some (.int .i64 pu) ∧ w''.cell? ⟨w.heap.size + 1 + 1, 0, none⟩ = some (.int .i64 C) ∧ w''.cell? ⟨w.heap.size + 1 + 1, 1, none⟩ = some (.int .i64 cu)) (go_keep) (first | (go_at_call 47; refine (DF.out _ _ 2 (HS.out.below (HB4.out.alloc (by omega) _).drew) (hands_two _ _ _ _ _ _ (by go_simp) (by go_simp) (by go_simp) (by go_simp))).mono ?_; rintro e w6 ⟨rfl, hb5⟩; have hB5 : Below (w.heap.size + 1 + 1 + 1 + 1) ((((w.alloc (.cells #[.slice a n c] 24)).alloc (.cells #[.int .i64 P, .int .i64 pu] 26)).alloc (.cells #[.int .i64 C, .int .i64 cu] 26)).alloc (.cells #[.slice none 0 0] 24)) w6 := (HBB.out.alloc (by omega) _).drew.trans (hb5.mono (by simp; omega)); obtain ⟨m0, m1, m2, m3, m4, m5, m6⟩ := ins_low4 hB5; have H6 : Hid (Below (w.heap.size + 1 + 1 + 1 + 1) ((((w.alloc (.cells #[.slice a n c] 24)).alloc (.cells #[.int .i64 P, .int .i64 pu] 26)).alloc (.cells #[.int .i64 C, .int .i64 cu] 26)).alloc (.cells #[.slice none 0 0] 24)) w6) := hB5; clear hb5 hB5))
        go_wp2_with fail
        go_meet
        case rel => exact ⟨rfl, H6⟩
    | cons h t =>
      have e0 : t = [] ∧ m = 1 := by
        have h1 := HM.out
        rw [List.length_cons] at h1
        exact ⟨List.length_eq_zero_iff.1 (by omega), by omega⟩
      obtain ⟨e0, e1⟩ := e0
      subst e0
      subst e1
      obtain ⟨Q, qu⟩ := h
      obtain ⟨hb0, ho0, eh, _, _⟩ := HH.out 0 (by simp)
      subst eh
      have HC : Hid (∀ W, HandsAt W (some ⟨hb0, ho0, none⟩) [(Q, qu)] → W.cell? ⟨hb0, ho0, none⟩ = some (.int .i64 Q) ∧ W.cell? ⟨hb0, ho0 + 1, none⟩ = some (.int .i64 qu)) := fun W hW => by
        obtain ⟨b, o, e, h1, h2⟩ := hW 0 (by simp)
        cases e
        exact ⟨by simpa using h1, by simpa using h2⟩
      have HOLDS : Hid (∀ b, some (⟨w.heap.size + 1 + 1 + 1 + 1, 0, none⟩ : Addr) = some b → ∀ j u, ([.int .i64 P, .int .i64 pu, .int .i64 C, .int .i64 cu] : List Value)[j]? = some u → ((W4.alloc (.cells #[.int .i64 P, .int .i64 pu, .int .i64 C, .int .i64 cu] 26)).drew).cell? (b.add j) = some u) := fun b hb j u hj => by
        cases hb
        rw [Addr.add_lit, ← hsz4]
        match j, hj with
        | 0, hj => cases hj; go_simp
        | 1, hj => cases hj; go_simp
        | 2, hj => cases hj; go_simp
        | 3, hj => cases hj; go_simp
      have NEWS : Hid (∀ j u, ([.int .i64 Q, .int .i64 qu] : List Value)[j]? = some u → ((W4.alloc (.cells #[.int .i64 P, .int .i64 pu, .int .i64 C, .int .i64 cu] 26)).drew).cell? ((⟨hb0, ho0, none⟩ : Addr).add j) = some u) := fun j u hj => by
        obtain ⟨c0, c1⟩ := HC.out _ (HH.out.below (HB4.out.alloc (by omega) (.cells #[.int .i64 P, .int .i64 pu, .int .i64 C, .int .i64 cu] 26)).drew)
        rw [Addr.add_lit]
        match j, hj with
        | 0, hj => cases hj; exact c0
        | 1, hj => cases hj; exact c1
      go_region_held3 (fun w'' => w''.cell? ⟨w.heap.size, 0, none⟩ = some (.slice a n c) ∧ w''.cell? ⟨w.heap.size + 1, 0, none⟩ = some (.int .i64 P) ∧ w''.cell? ⟨w.heap.size + 1, 1, none⟩ = some (.int .i64 pu) ∧ w''.cell? ⟨w.heap.size + 1 + 1, 0, none⟩ = some (.int .i64 C) ∧ w''.cell? ⟨w.heap.size + 1 + 1, 1, none⟩ = some (.int .i64 cu)) (go_keep) (first
        | (refine step_append_grows rfl (.tmp 31) (.tmp 32) 48 rfl 26 i0 (.agg #[.int .i64 0, .int .i64 0]) 2 16 Try.underlying48 hi0 hz0 hz1 hz2 rfl (by decide) (some ⟨w.heap.size + 1 + 1 + 1 + 1, 0, none⟩) 2 2 [.int .i64 P, .int .i64 pu, .int .i64 C, .int .i64 cu] rfl (fun h => by cases h) rfl HOLDS.out ⟨hb0, ho0, none⟩ 1 hc [.int .i64 Q, .int .i64 qu] rfl rfl NEWS.out (by intro u hu; simp at hu; rcases hu with rfl | rfl <;> rfl) (by decide) (by decide) (by decide) ?_; intro v5 w5 hown5 hgrow5; have hB5 : Below (w.heap.size + 1 + 1 + 1 + 1) ((((w.alloc (.cells #[.slice a n c] 24)).alloc (.cells #[.int .i64 P, .int .i64 pu] 26)).alloc (.cells #[.int .i64 C, .int .i64 cu] 26)).alloc (.cells #[.slice none 0 0] 24)) w5 := (HBB.out.alloc (by omega) _).drew.grown hgrow5 (by simp; omega) (fun k hk => by cases hk); obtain ⟨k0, k1, k2, k3, k4, k5, k6⟩ := ins_low4 hB5; obtain ⟨ha5, hc5, hv5, hh5⟩ := hands_own hown5; subst hv5; have HH5 : Hid (HandsAt w5 ha5 [(P, pu), (C, cu), (Q, qu)]) := hh5; have H5 : Hid (Below (w.heap.size + 1 + 1 + 1 + 1) ((((w.alloc (.cells #[.slice a n c] 24)).alloc (.cells #[.int .i64 P, .int .i64 pu] 26)).alloc (.cells #[.int .i64 C, .int .i64 cu] 26)).alloc (.cells #[.slice none 0 0] 24)) w5) := hB5; clear hown5 hgrow5 hB5 hh5)
        | (go_at_call 47; refine (DF.out _ _ _ (HS.out.below ((four_below _ _ _ _ _).trans (H5.out.mono (by omega)))) HH5.out).mono ?_; rintro e w6 ⟨rfl, hb6⟩; have hs5 := H5.out.size; simp only [World.size_alloc] at hs5; have hB6 : Below (w.heap.size + 1 + 1 + 1 + 1) ((((w.alloc (.cells #[.slice a n c] 24)).alloc (.cells #[.int .i64 P, .int .i64 pu] 26)).alloc (.cells #[.int .i64 C, .int .i64 cu] 26)).alloc (.cells #[.slice none 0 0] 24)) w6 := H5.out.trans (hb6.mono hs5); obtain ⟨m0, m1, m2, m3, m4, m5, m6⟩ := ins_low4 hB6; have H6 : Hid (Below (w.heap.size + 1 + 1 + 1 + 1) ((((w.alloc (.cells #[.slice a n c] 24)).alloc (.cells #[.int .i64 P, .int .i64 pu] 26)).alloc (.cells #[.int .i64 C, .int .i64 cu] 26)).alloc (.cells #[.slice none 0 0] 24)) w6) := hB6; clear hb6 hB6))
      go_wp2_with fail
      go_meet
      case rel => exact ⟨rfl, H6⟩
  case rest =>
  obtain ⟨rfl, H6⟩ := hcut
  clear l0 l1 l2 l3 l4 l5 l6 hsz4 HB4 HBB DF
  go_wp2_with fail
  refine Calls.mono (DB.out _ _) ?_
  rintro e wb ⟨rfl, hbb⟩
  have HBb : Hid (Below (w.heap.size + 1 + 1 + 1 + 1) ((((w.alloc (.cells #[.slice a n c] 24)).alloc (.cells #[.int .i64 P, .int .i64 pu] 26)).alloc (.cells #[.int .i64 C, .int .i64 cu] 26)).alloc (.cells #[.slice none 0 0] 24)) wb) := H6.out.trans (hbb.mono (by have := H6.out.size; simp only [World.size_alloc] at this; omega))
  obtain ⟨⟨l0, l1, l2, l3⟩, ⟨z0, z3⟩, hsz, hB⟩ := rins_low HBb.out
  have q3 : w.heap.size + 1 + 1 + 1 < wb.heap.size := by omega
  have HBc : Hid _ := hB
  clear hbb hB
  go_wp2_with fail
  refine bodyPost_ret (v := .tuple #[.agg #[.slice none 0 0], .int .i64 E]) (by simp [results, Try.results28, go_sem, l3]) rfl ⟨rfl, ?_⟩
  first | exact HBc.out.setCell (by simp; omega) _ | exact (HBc.out.setCell (by simp; omega) _).drew
end Go.Proofs.Ytjlapfgghljidaa
