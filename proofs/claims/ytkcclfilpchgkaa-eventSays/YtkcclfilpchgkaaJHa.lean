/-
  Hearers in memory, and what is wrong with them: the program's Check.
-/
import Derived.Test.YtkcclfilpchgkaaJSaBa
import Derived.Test.YtkcclfilpchgkaaJNaLo
import Derived.Deep.DeepCutAuto
namespace Go.Proofs.Ytkcclfilpchgkaa
open Go.RowKit Go.ChangeShapes Go.WideShapes
set_option linter.unusedVariables false

structure Hr where
  pl : Int
  dn : Bool
  on : Bool
  st : Bool
  id : Int
  deriving DecidableEq

def hr (L : List Hr) (i : Nat) : Hr := L.getD i ⟨0, false, false, false, 0⟩
theorem hr_elem {L : List Hr} {i : Nat} (h : i < L.length) : hr L i = L[i] := by unfold hr; simp [h]

def HrsAt (w : World) (a : Option Addr) (L : List Hr) : Prop :=
  ∀ i, i < L.length → ∃ b o, a = some ⟨b, o, none⟩ ∧ w.cell? ⟨b, o + i * 5, none⟩ = some (.int .i64 (hr L i).pl) ∧ w.cell? ⟨b, o + i * 5 + 1, none⟩ = some (.bool (hr L i).dn) ∧ w.cell? ⟨b, o + i * 5 + 2, none⟩ = some (.bool (hr L i).on) ∧ w.cell? ⟨b, o + i * 5 + 3, none⟩ = some (.bool (hr L i).st) ∧ w.cell? ⟨b, o + i * 5 + 4, none⟩ = some (.int .i64 (hr L i).id)

theorem HrsAt.below {w w' : World} {a : Option Addr} {L : List Hr} (h : HrsAt w a L) (hb : Below w.heap.size w w') : HrsAt w' a L := fun i hi => by
  obtain ⟨b, o, e, h1, h2, h3, h4, h5⟩ := h i hi
  have hlt : b < w.heap.size := World.block_lt_of_cell? _ _ h1
  exact ⟨b, o, e, (hb.cell (by exact hlt)).trans h1, (hb.cell (by exact hlt)).trans h2, (hb.cell (by exact hlt)).trans h3, (hb.cell (by exact hlt)).trans h4, (hb.cell (by exact hlt)).trans h5⟩

/-- Each ID is a number that the machine holds. -/
def BigH (L : List Hr) : Prop := ∀ i, i < L.length → (Lit.int .i64 (hr L i).id).wf = true

def hgo (N : Int) (seen : List Int) : List Hr → Int
  | [] => 0
  | h :: t => if h.pl < 0 ∨ N ≤ h.pl then 4 else if h.id ∈ seen then 3 else hgo N (seen ++ [h.id]) t

def idsF (L : List Hr) (i : Nat) : List Int := (L.take i).map Hr.id
def hErr (N : Int) (L : List Hr) (i : Nat) : Int := hgo N (idsF L i) (L.drop i)
def hcheckE (L : List Hr) (N : Int) : Int := if 24 < L.length then 1 else hErr N L 0

theorem ids_step {L : List Hr} {i : Nat} (h : i < L.length) : idsF L (i + 1) = idsF L i ++ [(hr L i).id] := by
  unfold idsF
  rw [List.take_succ_eq_append_getElem h, List.map_append, hr_elem h]
  rfl
theorem hErr_step {N : Int} {L : List Hr} {i : Nat} (h : i < L.length) : hErr N L i = if (hr L i).pl < 0 ∨ N ≤ (hr L i).pl then 4 else if (hr L i).id ∈ idsF L i then 3 else hErr N L (i + 1) := by
  unfold hErr
  rw [List.drop_eq_getElem_cons h, hgo, ids_step h, hr_elem h]
theorem hErr_end {N : Int} {L : List Hr} {i : Nat} (h : L.length ≤ i) : hErr N L i = 0 := by
  unfold hErr
  rw [List.drop_eq_nil_of_le h]
  rfl

/-- What a set of numbers says. -/
def sk (T : List Int) : Lit → Option Value
  | .int .i64 k => if k ∈ T then some (.agg #[]) else none
  | _ => none
theorem sk_int (T : List Int) (k : Int) : sk T (.int .i64 k) = if k ∈ T then some (.agg #[]) else none := rfl
theorem sk_new (T : List Int) (k : Int) : sk (T ++ [k]) (.int .i64 k) = some (.agg #[]) := by rw [sk_int, if_pos (by simp)]
theorem sk_old {T : List Int} {k : Int} (j : Lit) (h : j ≠ .int .i64 k) : sk (T ++ [k]) j = sk T j := by
  unfold sk
  split
  · rename_i x
    have hne : x ≠ k := fun e => h (by rw [e])
    by_cases hx : x ∈ T
    · rw [if_pos (by simp [hx]), if_pos hx]
    · rw [if_neg (by simp [hx, hne]), if_neg hx]
  · rfl

/-- A map[int]struct{} of the call's own. -/
def SetAt (w : World) (b n : Nat) (T : List Int) : Prop := RawAt Try.prog 3 w b n (sk T)

set_option maxRecDepth 100000 in
theorem zeroUnit (w : World) : (zeroValue 66).run Try.prog w = .ok (.agg #[]) w := by kernel_rfl
theorem intKeyH {k : Int} (h : (Lit.int .i64 k).wf = true) : keyOf Try.prog 3 (.int .i64 k) = some (.int .i64 k) := Maps.keyOf_int_mk Try.underlying3 h

theorem SetAt.made (w : World) : SetAt (w.alloc (.map #[] 0)) w.heap.size 0 [] := (RawAt.made Try.prog 3 w).congr (fun kl _ => by unfold sk; split <;> simp)
theorem SetAt.look {w : World} {b n : Nat} {T : List Int} (h : SetAt w b n T) {k : Int} (hk : (Lit.int .i64 k).wf = true) : (Instr.lookup 61 (.map (some b)) (.int .i64 k) true).run Try.prog w = .ok (.tuple #[.agg #[], .bool (decide (k ∈ T))]) w := by
  have e := RawAt.look_ok h (Maps.int_keyed Try.underlying3) (t := 61) Try.underlying61 (zeroUnit w) (intKeyH hk) trivial
  rw [sk_int] at e
  by_cases hm : k ∈ T
  · rw [if_pos hm] at e
    rw [decide_eq_true hm]
    exact e
  · rw [if_neg hm] at e
    rw [decide_eq_false hm]
    exact e
theorem SetAt.put {w : World} {b n : Nat} {T : List Int} (h : SetAt w b n T) (hn : n < maxLen) {k : Int} (hk : (Lit.int .i64 k).wf = true) : ∃ w', (Instr.mapUpdate 61 (.map (some b)) (.int .i64 k) (.agg #[])).run Try.prog w = .ok () w' ∧ SetAt w' b (n + 1) (T ++ [k]) ∧ w.grownBy w' (some b) := by
  obtain ⟨w', h1, h2, h3⟩ := RawAt.put h (Maps.int_keyed Try.underlying3) (t := 61) Try.underlying61 hn (intKeyH hk) trivial (.agg #[])
  exact ⟨w', h1, h2 _ (sk_new T k) (fun j hj => sk_old j hj), h3⟩

set_option maxRecDepth 100000 in
set_option maxHeartbeats 2000000 in
theorem hcheck_any (a : Option Addr) (c : Nat) (L : List Hr) (N : Int) (w : World) (hN : L.length ≤ 9223372036854775807) (hB : BigH L) (hL : HrsAt w a L) :
    Calls Try.prog 9 #[.slice a L.length c, .int .i64 N] w fun e w' => e = .returned (.int .i64 (hcheckE L N)) ∧ Below w.heap.size w w' := by
  by_cases hm : 24 < L.length
  · have e : hcheckE L N = 1 := by unfold hcheckE; rw [if_pos hm]
    rw [e]
    have hm2 : decide ((24 : Int) < (L.length : Int)) = true := decide_eq_true (by omega)
    clear hB hL e
    generalize L.length = n at *
    go_enter Try.func9, Try.ntmps9
    go_wp2_with fail
    go_ret
    exact ⟨rfl, Below.refl _ _⟩
  · have e : hcheckE L N = hErr N L 0 := by unfold hcheckE; rw [if_neg hm]
    rw [e]
    have HL : Hid (HrsAt w a L) := hL
    have HBG : Hid (BigH L) := hB
    have hm2 : decide ((24 : Int) < (L.length : Int)) = false := decide_eq_false (by omega)
    have ST : Hid (∀ i, i < L.length → hErr N L i = if (hr L i).pl < 0 ∨ N ≤ (hr L i).pl then 4 else if (hr L i).id ∈ idsF L i then 3 else hErr N L (i + 1)) := fun i hi => hErr_step hi
    have IS : Hid (∀ i, i < L.length → idsF L (i + 1) = idsF L i ++ [(hr L i).id]) := fun i hi => ids_step hi
    have EN : Hid (hErr N L L.length = 0) := hErr_end (Nat.le_refl _)
    have M0 : Hid (SetAt (w.alloc (.map #[] 0)) w.heap.size 0 (idsF L 0)) := SetAt.made w
    have hmm := @run_makeMap Try.prog
    clear hB hL e
    obtain ⟨E, hE⟩ : ∃ E, hErr N L 0 = E := ⟨_, rfl⟩
    have HE : Hid (hErr N L 0 = E) := hE
    rw [hE]
    clear hE
    obtain ⟨n, hn⟩ : ∃ n, L.length = n := ⟨_, rfl⟩
    have HN : Hid (L.length = n) := hn
    rw [hn] at hN hm hm2 ST IS EN ⊢
    clear hn
    go_enter Try.func9, Try.ntmps9
    go_wp2_with fail
    go_loopg [16] n (fun g s16 wr => ∃ i : Nat, i ≤ n ∧ n - i ≤ g ∧ s16 = .int .i64 i ∧ Hid (Below w.heap.size w wr) ∧ w.heap.size < wr.heap.size ∧ Hid (SetAt wr w.heap.size i (idsF L i)) ∧ Hid (hErr N L i = E))
    case atStart => exact ⟨0, by omega, by omega, rfl, one_belowS _ _, by simp, M0, HE⟩
    case round =>
      obtain ⟨i, hi, hg, rfl, HBr, hsz, MK, HEi⟩ := hrel
      clear M0 HE
      by_cases hlt : i < n
      · have hlt2 : (i : Int) < (n : Int) := by omega
        obtain ⟨b, o, ea, c0, c1, c2, c3, c4⟩ := (HL.out.below HBr.out) i (by rw [HN.out]; exact hlt)
        subst ea
        have hwf := HBG.out i (by rw [HN.out]; exact hlt)
        have STi : Hid _ := (ST.out i hlt).symm.trans HEi.out
        have ISi : Hid _ := IS.out i hlt
        have q0 := World.block_lt_of_cell? _ _ c0
        generalize hr L i = x at *
        obtain ⟨xp, xd, xo, xs, xi⟩ := x
        dsimp only at c0 c1 c2 c3 c4 hwf STi ISi
        have HBA : Hid (∀ o1, Below w.heap.size w (wr.alloc o1)) := fun o1 => HBr.out.trans ((one_belowS wr o1).mono HBr.out.size)
        have HBA2 : Hid (∀ o1 o2, Below w.heap.size w ((wr.alloc o1).alloc o2)) := fun o1 o2 => HBr.out.trans ((two_belowS wr o1 o2).mono HBr.out.size)
        by_cases hp : xp < 0
        · have d1 : decide (xp < 0) = true := decide_eq_true hp
          have HEE : Hid (4 = E) := by have h := STi.out; rwa [if_pos (Or.inl hp)] at h
          clear STi
          go_wp2_with fail
          go_ret
          exact ⟨by rw [HEE.out]; rfl, HBA.out _⟩
        · have d1 : decide (xp < 0) = false := decide_eq_false hp
          by_cases hq : N ≤ xp
          · have d2 : decide (N ≤ xp) = true := decide_eq_true hq
            have HEE : Hid (4 = E) := by have h := STi.out; rwa [if_pos (Or.inr hq)] at h
            clear STi
            go_wp2_with fail
            go_ret
            exact ⟨by rw [HEE.out]; rfl, HBA.out _⟩
          · have d2 : decide (N ≤ xp) = false := decide_eq_false hq
            have hlook : ∀ o1, (Instr.lookup 61 (.map (some w.heap.size)) (.int .i64 xi) true).run Try.prog (wr.alloc o1) = .ok (.tuple #[.agg #[], .bool (decide (xi ∈ idsF L i))]) (wr.alloc o1) := fun o1 => SetAt.look (RawAt.kept MK.out ((one_belowS wr o1).block _ hsz)) hwf
            by_cases hm3 : xi ∈ idsF L i
            · have HEE : Hid (3 = E) := by have h := STi.out; rwa [if_neg (by omega), if_pos hm3] at h
              rw [decide_eq_true hm3] at hlook
              clear STi hm3
              go_wp2_with fail
              go_ret
              exact ⟨by rw [HEE.out]; rfl, HBA2.out _ _⟩
            · have HEE : Hid (hErr N L (i + 1) = E) := by have h := STi.out; rwa [if_neg (by omega), if_neg hm3] at h
              rw [decide_eq_false hm3] at hlook
              clear STi hm3
              obtain ⟨W2, hW2⟩ : ∃ W2, (wr.alloc (.cells #[.int .i64 xp, .bool xd, .bool xo, .bool xs, .int .i64 xi] 39)).alloc (.cells #[] 66) = W2 := ⟨_, rfl⟩
              have mk2 : SetAt W2 w.heap.size i (idsF L i) := by rw [← hW2]; exact RawAt.kept MK.out ((two_belowS wr _ _).block _ hsz)
              have hb2 : Below w.heap.size w W2 := by rw [← hW2]; exact HBA2.out _ _
              have hs2 : wr.heap.size ≤ W2.heap.size := by rw [← hW2]; simp; omega
              obtain ⟨w3, hput, mk3, gr3⟩ := mk2.put (by unfold maxLen; omega) hwf
              rw [← hW2] at hput
              have MK3 : Hid (SetAt w3 w.heap.size (i + 1) (idsF L (i + 1))) := by rw [ISi.out]; exact mk3
              have HB3 : Hid (Below w.heap.size w w3) := hb2.grown gr3 hb2.size (fun k hk => by cases hk; exact Nat.le_refl _)
              have hs3 : w.heap.size < w3.heap.size := by have := gr3.size; omega
              clear mk2 mk3 gr3 hb2 hs2 hW2 MK
              go_wp2_with fail
              go_roundg (n - (i + 1))
              case measure => omega
              case rel => exact ⟨i + 1, by omega, by omega, by go_num, HB3, hs3, MK3, HEE⟩
      · have hie : i = n := by omega
        subst hie
        have HEE : Hid ((0 : Int) = E) := EN.out.symm.trans HEi.out
        clear MK HEi
        go_wp2_with fail
        go_ret
        exact ⟨by rw [HEE.out]; rfl, HBr.out⟩
end Go.Proofs.Ytkcclfilpchgkaa
