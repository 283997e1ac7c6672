/-
  What an insertion does, as the reference reckons it, without the program.
-/
import Derived.Test.YtiekhgpnmcffiaaJRw
import Derived.Test.YtiekhgpnmcffiaaJSrWf
import Derived.Test.YtiekhgpnmcffiaaJZa
namespace Go.Proofs.Ytiekhgpnmcffiaa
open Go.RowKit

theorem climb_under (S : List Nd) (a : Int) : ∀ (f : Nat) (x : Int), climbF S rightUnder (underStep a) f x false = decide (a ∈ lineF S f x)
  | 0, _ => by simp [climbF, lineF]
  | f + 1, x => by
    by_cases hx : isPl S.length x = true
    · have e : lineF S (f + 1) x = x :: lineF S f (rightUnder (nd S x.toNat)) := by rw [lineF, if_pos hx]
      rw [e, climbF, if_pos hx]
      simp only [underStep]
      by_cases h : x = a
      · simp [h]
      · have h2 : ¬ a = x := fun e => h e.symm
        simp only [h, decide_false, Bool.not_false, if_true, List.mem_cons, h2, false_or]
        exact climb_under S a f _
    · have e : lineF S (f + 1) x = [] := by rw [lineF, if_neg hx]
      rw [e, climbF, if_neg hx]
      simp

theorem in_path {S : List Nd} {pa ch : Nat} (hpa : pa < S.length) : decide ((ch : Int) ∈ pathF S pa) = (decide ((pa : Int) = ch) || underB S pa ch) := by
  unfold pathF underB
  rw [if_pos (isPl_nat.2 hpa), Int.toNat_natCast, climb_under]
  by_cases h : (pa : Int) = ch
  · simp [h]
  · have h2 : ¬ (ch : Int) = pa := fun e => h e.symm
    simp [h, h2]

theorem fits_path {S : List Nd} {pa ch : Nat} (hpa : pa < S.length) : fitsB S ch pa = (decide ((nd S ch).h = -1) && !decide ((ch : Int) ∈ pathF S pa)) := by
  rw [in_path hpa]
  unfold fitsB
  cases decide ((pa : Int) = ch) <;> cases underB S pa ch <;> simp

def insL (next c : Int) (ks : List Int) : List Int := ks.flatMap fun k => if k = next then [c, k] else [k]

theorem insL_snoc (next c k : Int) (l : List Int) : insL next c (l ++ [k]) = insL next c l ++ (if k = next then [c, k] else [k]) := by
  unfold insL
  rw [List.flatMap_append]
  simp

theorem insL_len (next c : Int) : ∀ l : List Int, (insL next c l).length ≤ 2 * l.length
  | [] => by simp [insL]
  | k :: l => by
    have := insL_len next c l
    unfold insL at this ⊢
    rw [List.flatMap_cons, List.length_append]
    by_cases h : k = next
    · rw [if_pos h, List.length_cons, List.length_cons, List.length_cons, List.length_nil]; omega
    · rw [if_neg h, List.length_cons, List.length_cons, List.length_nil]; omega

theorem insL_none {next c : Int} : ∀ {l : List Int}, next ∉ l → insL next c l = l
  | [], _ => rfl
  | k :: l, h => by
    have h1 : ¬ k = next := fun e => h (by simp [e])
    have h2 := insL_none (next := next) (c := c) (l := l) (fun hm => h (List.mem_cons_of_mem _ hm))
    unfold insL at h2 ⊢
    rw [List.flatMap_cons, if_neg h1, h2]
    rfl

theorem insL_at {next c : Int} : ∀ {l : List Int} {i : Nat}, l.Nodup → i < l.length → l.getD i 0 = next → insL next c l = ins l i c
  | [], _, _, h, _ => by simp at h
  | k :: l, 0, hn, _, h => by
    have e : k = next := by simpa using h
    subst e
    have := insL_none (next := k) (c := c) (List.nodup_cons.1 hn).1
    unfold insL at this ⊢
    rw [List.flatMap_cons, if_pos rfl, this]
    simp [ins]
  | k :: l, i + 1, hn, hi, h => by
    have hl : l.getD i 0 = next := by simpa using h
    have hi2 : i < l.length := by simpa using hi
    have hm : next ∈ l := by rw [← hl, getD_elem l 0 hi2]; exact List.getElem_mem _
    have hk : ¬ k = next := fun e => (List.nodup_cons.1 hn).1 (by rw [e]; exact hm)
    have := insL_at (c := c) (List.nodup_cons.1 hn).2 hi2 hl
    unfold insL at this ⊢
    rw [List.flatMap_cons, if_neg hk, this]
    simp [ins]

theorem ins_end (l : List Int) (c : Int) : ins l l.length c = l ++ [c] := by simp [ins]

/-- The store with ch no more among its Parent's children (its own Parent stays). -/
def outS (S : List Nd) (ch : Nat) : List Nd := if (nd S ch).p = -1 then S else S.set (nd S ch).p.toNat ⟨(nd S (nd S ch).p.toNat).u, (nd S (nd S ch).p.toNat).n, (nd S (nd S ch).p.toNat).t, (nd S (nd S ch).p.toNat).m, (nd S (nd S ch).p.toNat).p, woF ch (nd S (nd S ch).p.toNat).ks, (nd S (nd S ch).p.toNat).h, (nd S (nd S ch).p.toNat).c⟩

theorem outS_length (S : List Nd) (ch : Nat) : (outS S ch).length = S.length := by
  unfold outS
  split <;> simp

theorem nd_outS {S : List Nd} {ch : Nat} (hp0 : (nd S ch).p = -1 ∨ ∃ p0 : Nat, p0 < S.length ∧ p0 ≠ ch ∧ (nd S ch).p = p0) {j : Nat} (hj : j < S.length) :
    nd (outS S ch) j = ⟨(nd (leaveG S ch) j).u, (nd (leaveG S ch) j).n, (nd (leaveG S ch) j).t, (nd (leaveG S ch) j).m, (nd S j).p, (nd (leaveG S ch) j).ks, (nd (leaveG S ch) j).h, (nd (leaveG S ch) j).c⟩ := by
  unfold outS leaveG
  rcases hp0 with h | ⟨p0, h1, h2, h3⟩
  · rw [if_pos h, if_pos h]
  · have hn : ¬ (nd S ch).p = -1 := by omega
    rw [if_neg hn, if_neg hn, h3, Int.toNat_natCast, nd_leaveS S p0 ch j hj, nd_set S p0 j _ h1]
    unfold leaveNd
    by_cases e : j = ch
    · subst e
      rw [if_neg (fun e => h2 e.symm), if_pos rfl]
    · by_cases e2 : j = p0
      · subst e2
        rw [if_pos rfl, if_neg e, if_pos rfl]
        rfl
      · rw [if_neg e2, if_neg e, if_neg e2]

def moveS (S : List Nd) (pa ch : Nat) : List Nd := (outS S ch).set ch ⟨(nd (outS S ch) ch).u, (nd (outS S ch) ch).n, (nd (outS S ch) ch).t, (nd (outS S ch) ch).m, (pa : Int), (nd (outS S ch) ch).ks, (nd (outS S ch) ch).h, (nd (outS S ch) ch).c⟩

theorem moveS_length (S : List Nd) (pa ch : Nat) : (moveS S pa ch).length = S.length := by
  unfold moveS
  rw [List.length_set, outS_length]

theorem moveS_ks {S : List Nd} {pa ch : Nat} (hp0 : (nd S ch).p = -1 ∨ ∃ p0 : Nat, p0 < S.length ∧ p0 ≠ ch ∧ (nd S ch).p = p0) (hpa : pa < S.length) (hch : ch < S.length) (hne : pa ≠ ch) : nd (moveS S pa ch) pa = nd (outS S ch) pa ∧ (nd (moveS S pa ch) pa).ks = (nd (leaveG S ch) pa).ks := by
  have e : nd (moveS S pa ch) pa = nd (outS S ch) pa := by
    unfold moveS
    rw [nd_set _ ch pa _ (by rw [outS_length]; exact hch), if_neg hne]
  exact ⟨e, by rw [e, nd_outS hp0 hpa]⟩

theorem enter_sets {S : List Nd} {pa ch at' : Nat} (hp0 : (nd S ch).p = -1 ∨ ∃ p0 : Nat, p0 < S.length ∧ p0 ≠ ch ∧ (nd S ch).p = p0) (hpa : pa < S.length) (hch : ch < S.length) (hne : pa ≠ ch) :
    (moveS S pa ch).set pa ⟨(nd (moveS S pa ch) pa).u, (nd (moveS S pa ch) pa).n, (nd (moveS S pa ch) pa).t, (nd (moveS S pa ch) pa).m, (nd (moveS S pa ch) pa).p, ins (nd (leaveG S ch) pa).ks at' ch, (nd (moveS S pa ch) pa).h, (nd (moveS S pa ch) pa).c⟩ = enterS (leaveG S ch) pa ch at' := by
  have hl := leaveG_length S ch
  refine List.ext_getElem (by rw [List.length_set, moveS_length, enterS_length, hl]) (fun i h1 h2 => ?_)
  have hi : i < S.length := by rw [List.length_set, moveS_length] at h1; exact h1
  have e1 := nd_enterS (leaveG S ch) pa ch at' i (by rw [hl]; exact hi)
  rw [nd_elem (by rw [enterS_length, hl]; exact hi)] at e1
  have e2 := nd_set (moveS S pa ch) pa i ⟨(nd (moveS S pa ch) pa).u, (nd (moveS S pa ch) pa).n, (nd (moveS S pa ch) pa).t, (nd (moveS S pa ch) pa).m, (nd (moveS S pa ch) pa).p, ins (nd (leaveG S ch) pa).ks at' ch, (nd (moveS S pa ch) pa).h, (nd (moveS S pa ch) pa).c⟩ (by rw [moveS_length]; exact hpa)
  rw [nd_elem h1] at e2
  rw [e1, e2]
  unfold enterNd
  by_cases e : i = pa
  · subst e
    rw [if_pos rfl, if_neg hne, if_pos rfl, (moveS_ks hp0 hpa hch hne).1, nd_outS hp0 hpa, leaveG_p S hpa, if_neg hne]
  · rw [if_neg e]
    by_cases e3 : i = ch
    · subst e3
      rw [if_pos rfl]
      unfold moveS
      rw [nd_set _ i i _ (by rw [outS_length]; exact hch), if_pos rfl, nd_outS hp0 hch]
    · rw [if_neg e3, if_neg e]
      unfold moveS
      rw [nd_set _ ch i _ (by rw [outS_length]; exact hch), if_neg e3, nd_outS hp0 hi]
      have := leaveG_p S (ch := ch) (j := i) hi
      rw [if_neg e3] at this
      rw [← this]
end Go.Proofs.Ytiekhgpnmcffiaa
