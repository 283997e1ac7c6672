/-
  Hearers in memory, and what is wrong with them: the program's Check.
-/
import Derived.Test.YtebhlcjljdgnkaaUSaBa
import Derived.Test.YtebhlcjljdgnkaaUNaSd
import Derived.Test.YtebhlcjljdgnkaaULoSe
import Derived.Deep.DeepCutAuto
import Derived.Test.YtebhlcjljdgnkaaUSf
namespace Go.Proofs.Ytebhlcjljdgnkaa
open Go.RowKit Go.ChangeShapes Go.WideShapes
set_option linter.unusedVariables false

structure Hr where
  pl : Int
  dn : Bool
  on : Bool
  st : Bool
  id : Int
  deriving DecidableEq

def hr (L : List Hr) (i : Nat) : Hr := L.getD i ⟨0, false, false, false, 0⟩
theorem hr_elem {L : List Hr} {i : Nat} (h : i < L.length) : hr L i = L[i] := by unfold hr; simp [h]

def HrsAt (w : World) (a : Option Addr) (L : List Hr) : Prop :=
  ∀ i, i < L.length → ∃ b o, a = some ⟨b, o, none⟩ ∧ w.cell? ⟨b, o + i * 5, none⟩ = some (.int .i64 (hr L i).pl) ∧ w.cell? ⟨b, o + i * 5 + 1, none⟩ = some (.bool (hr L i).dn) ∧ w.cell? ⟨b, o + i * 5 + 2, none⟩ = some (.bool (hr L i).on) ∧ w.cell? ⟨b, o + i * 5 + 3, none⟩ = some (.bool (hr L i).st) ∧ w.cell? ⟨b, o + i * 5 + 4, none⟩ = some (.int .i64 (hr L i).id)

theorem HrsAt.below {w w' : World} {a : Option Addr} {L : List Hr} (h : HrsAt w a L) (hb : Below w.heap.size w w') : HrsAt w' a L := fun i hi => by
  obtain ⟨b, o, e, h1, h2, h3, h4, h5⟩ := h i hi
  have hlt : b < w.heap.size := World.block_lt_of_cell? _ _ h1
  exact ⟨b, o, e, (hb.cell (by exact hlt)).trans h1, (hb.cell (by exact hlt)).trans h2, (hb.cell (by exact hlt)).trans h3, (hb.cell (by exact hlt)).trans h4, (hb.cell (by exact hlt)).trans h5⟩

/-- Each ID is a number that the machine holds. -/
def BigH (L : List Hr) : Prop := ∀ i, i < L.length → (Lit.int .i64 (hr L i).id).wf = true

def hgo (N : Int) (seen : List Int) : List Hr → Int
  | [] => 0
  | h :: t => if h.pl < 0 ∨ N ≤ h.pl then 4 else if h.id ∈ seen then 3 else hgo N (seen ++ [h.id]) t

def idsF (L : List Hr) (i : Nat) : List Int := (L.take i).map Hr.id
def hErr (N : Int) (L : List Hr) (i : Nat) : Int := hgo N (idsF L i) (L.drop i)
def hcheckE (L : List Hr) (N : Int) : Int := if 24 < L.length then 1 else hErr N L 0

theorem ids_step {L : List Hr} {i : Nat} (h : i < L.length) : idsF L (i + 1) = idsF L i ++ [(hr L i).id] := by
  unfold idsF
  rw [List.take_succ_eq_append_getElem h, List.map_append, hr_elem h]
  rfl
theorem hErr_step {N : Int} {L : List Hr} {i : Nat} (h : i < L.length) : hErr N L i = if (hr L i).pl < 0 ∨ N ≤ (hr L i).pl then 4 else if (hr L i).id ∈ idsF L i then 3 else hErr N L (i + 1) := by
  unfold hErr
  rw [List.drop_eq_getElem_cons h, hgo, ids_step h, hr_elem h]
theorem hErr_end {N : Int} {L : List Hr} {i : Nat} (h : L.length ≤ i) : hErr N L i = 0 := by
  unfold hErr
  rw [List.drop_eq_nil_of_le h]
  rfl

/-- What a set of numbers says. -/
def sk (T : List Int) : Lit → Option Value
  | .int .i64 k => if k ∈ T then some (.agg #[]) else none
  | _ => none
theorem sk_int (T : List Int) (k : Int) : sk T (.int .i64 k) = if k ∈ T then some (.agg #[]) else none := rfl
theorem sk_new (T : List Int) (k : Int) : sk (T ++ [k]) (.int .i64 k) = some (.agg #[]) := by rw [sk_int, if_pos (by simp)]
theorem sk_old {T : List Int} {k : Int} (j : Lit) (h : j ≠ .int .i64 k) : sk (T ++ [k]) j = sk T j := by
  unfold sk
  split
  · rename_i x
    have hne : x ≠ k := fun e => h (by rw [e])
    by_cases hx : x ∈ T
    · rw [if_pos (by simp [hx]), if_pos hx]
    · rw [if_neg (by simp [hx, hne]), if_neg hx]
  · rfl

/-- A map[int]struct{} of the call's own. -/
def SetAt (w : World) (b n : Nat) (T : List Int) : Prop := RawAt Try.prog 3 w b n (sk T)

set_option maxRecDepth 100000 in
theorem zeroUnit (w : World) : (zeroValue 65).run Try.prog w = .ok (.agg #[]) w := by kernel_rfl
theorem intKeyH {k : Int} (h : (Lit.int .i64 k).wf = true) : keyOf Try.prog 3 (.int .i64 k) = some (.int .i64 k) := Maps.keyOf_int_mk Try.underlying3 h

theorem SetAt.made (w : World) : SetAt (w.alloc (.map #[] 0)) w.heap.size 0 [] := (RawAt.made Try.prog 3 w).congr (fun kl _ => by unfold sk; split <;> simp)
theorem SetAt.look {w : World} {b n : Nat} {T : List Int} (h : SetAt w b n T) {k : Int} (hk : (Lit.int .i64 k).wf = true) : (Instr.lookup 60 (.map (some b)) (.int .i64 k) true).run Try.prog w = .ok (.tuple #[.agg #[], .bool (decide (k ∈ T))]) w := by
  have e := RawAt.look_ok h (Maps.int_keyed Try.underlying3) (t := 60) Try.underlying60 (zeroUnit w) (intKeyH hk) trivial
  rw [sk_int] at e
  by_cases hm : k ∈ T
  · rw [if_pos hm] at e
    rw [decide_eq_true hm]
    exact e
  · rw [if_neg hm] at e
    rw [decide_eq_false hm]
    exact e
theorem SetAt.put {w : World} {b n : Nat} {T : List Int} (h : SetAt w b n T) (hn : n < maxLen) {k : Int} (hk : (Lit.int .i64 k).wf = true) : ∃ w', (Instr.mapUpdate 60 (.map (some b)) (.int .i64 k) (.agg #[])).run Try.prog w = .ok () w' ∧ SetAt w' b (n + 1) (T ++ [k]) ∧ w.grownBy w' (some b) := by
  obtain ⟨w', h1, h2, h3⟩ := RawAt.put h (Maps.int_keyed Try.underlying3) (t := 60) Try.underlying60 hn (intKeyH hk) trivial (.agg #[])
  exact ⟨w', h1, h2 _ (sk_new T k) (fun j hj => sk_old j hj), h3⟩

set_option maxRecDepth 100000 in
set_option maxHeartbeats 2000000 in
theorem hcheck_any (a : Option Addr) (c : Nat) (L : List Hr) (N : Int) (w : World) (hN : L.length ≤ 9223372036854775807) (hB : BigH L) (hL : HrsAt w a L) :
    Calls Try.prog 20 #[.slice a L.length c, .int .i64 N] w fun e w' => e = .returned (.int .i64 (hcheckE L N)) ∧ Below w.heap.size w w' := by
  by_cases hm : 24 < L.length
  · have e : hcheckE L N = 1 := by unfold hcheckE; rw [if_pos hm]
    rw [e]
    have hm2 : decide ((24 : Int) < (L.length : Int)) = true := decide_eq_true (by omega)
    clear hB hL e
    generalize L.length = n at *
    go_enter Try.func20, Try.ntmps20
    go_wp2_with fail
    go_ret
    exact ⟨rfl, Below.refl _ _⟩
  · have e : hcheckE L N = hErr N L 0 := by unfold hcheckE; rw [if_neg hm]
    rw [e]
    have HL : Hid (HrsAt w a L) := hL
    have HBG : Hid (BigH L) := hB
    have hm2 : decide ((24 : Int) < (L.length : Int)) = false := decide_eq_false (by omega)
    have ST : Hid (∀ i, i < L.length → hErr N L i = if (hr L i).pl < 0 ∨ N ≤ (hr L i).pl then 4 else if (hr L i).id ∈ idsF L i then 3 else hErr N L (i + 1)) := fun i hi => hErr_step hi
    have IS : Hid (∀ i, i < L.length → idsF L (i + 1) = idsF L i ++ [(hr L i).id]) := fun i hi => ids_step hi
    have EN : Hid (hErr N L L.length = 0) := hErr_end (Nat.le_refl _)
    have M0 : Hid (SetAt (w.alloc (.map #[] 0)) w.heap.size 0 (idsF L 0)) := SetAt.made w
    have hmm := @run_makeMap Try.prog
    clear hB hL e
    obtain ⟨E, hE⟩ : ∃ E, hErr N L 0 = E := ⟨_, rfl⟩
    have HE : Hid (hErr N L 0 = E) := hE
    rw [hE]
    clear hE
    obtain ⟨n, hn⟩ : ∃ n, L.length = n := ⟨_, rfl⟩
    have HN : Hid (L.length = n) := hn
    rw [hn] at hN hm hm2 ST IS EN ⊢
    clear hn
    go_enter Try.func20, Try.ntmps20
    go_wp2_with fail
    go_loopg [16] n (fun g s16 wr => ∃ i : Nat, i ≤ n ∧ n - i ≤ g ∧ s16 = .int .i64 i ∧ Hid (Below w.heap.size w wr) ∧ w.heap.size < wr.heap.size ∧ Hid (SetAt wr w.heap.size i (idsF L i)) ∧ Hid (hErr N L i = E))
    case atStart => exact ⟨0, by omega, by omega, rfl, one_belowS _ _, by simp, M0, HE⟩
    case round =>
      obtain ⟨i, hi, hg, rfl, HBr, hsz, MK, HEi⟩ := hrel
      clear M0 HE
      by_cases hlt : i < n
      · have hlt2 : (i : Int) < (n : Int) := by omega
        obtain ⟨b, o, ea, c0, c1, c2, c3, c4⟩ := (HL.out.below HBr.out) i (by rw [HN.out]; exact hlt)
        subst ea
        have hwf := HBG.out i (by rw [HN.out]; exact hlt)
        have STi : Hid _ := (ST.out i hlt).symm.trans HEi.out
        have ISi : Hid _ := IS.out i hlt
        have q0 := World.block_lt_of_cell? _ _ c0
        generalize hr L i = x at *
        obtain ⟨xp, xd, xo, xs, xi⟩ := x
        dsimp only at c0 c1 c2 c3 c4 hwf STi ISi
        have HBA : Hid (∀ o1, Below w.heap.size w (wr.alloc o1)) := fun o1 => HBr.out.trans ((one_belowS wr o1).mono HBr.out.size)
        have HBA2 : Hid (∀ o1 o2, Below w.heap.size w ((wr.alloc o1).alloc o2)) := fun o1 o2 => HBr.out.trans ((two_belowS wr o1 o2).mono HBr.out.size)
        by_cases hp : xp < 0
        · have d1 : decide (xp < 0) = true := decide_eq_true hp
          have HEE : Hid (4 = E) := by have h := STi.out; rwa [if_pos (Or.inl hp)] at h
          clear STi
          go_wp2_with fail
          go_ret
          exact ⟨by rw [HEE.out]; rfl, HBA.out _⟩
        · have d1 : decide (xp < 0) = false := decide_eq_false hp
          by_cases hq : N ≤ xp
          · have d2 : decide (N ≤ xp) = true := decide_eq_true hq
            have HEE : Hid (4 = E) := by have h := STi.out; rwa [if_pos (Or.inr hq)] at h
            clear STi
            go_wp2_with fail
            go_ret
            exact ⟨by rw [HEE.out]; rfl, HBA.out _⟩
          · have d2 : decide (N ≤ xp) = false := decide_eq_false hq
            have hlook : ∀ o1, (Instr.lookup 60 (.map (some w.heap.size)) (.int .i64 xi) true).run Try.prog (wr.alloc o1) = .ok (.tuple #[.agg #[], .bool (decide (xi ∈ idsF L i))]) (wr.alloc o1) := fun o1 => SetAt.look (RawAt.kept MK.out ((one_belowS wr o1).block _ hsz)) hwf
            by_cases hm3 : xi ∈ idsF L i
            · have HEE : Hid (3 = E) := by have h := STi.out; rwa [if_neg (by omega), if_pos hm3] at h
              rw [decide_eq_true hm3] at hlook
              clear STi hm3
              go_wp2_with fail
              go_ret
              exact ⟨by rw [HEE.out]; rfl, HBA2.out _ _⟩
            · have HEE : Hid (hErr N L (i + 1) = E) := by have h := STi.out; rwa [if_neg (by omega), if_neg hm3] at h
              rw [decide_eq_false hm3] at hlook
              clear STi hm3
              obtain ⟨W2, hW2⟩ : ∃ W2, (wr.alloc (.cells #[.int .i64 xp, .bool xd, .bool xo, .bool xs, .int .i64 xi] 41)).alloc (.cells #[] 65) = W2 := ⟨_, rfl⟩
              have mk2 : SetAt W2 w.heap.size i (idsF L i) := by rw [← hW2]; exact RawAt.kept MK.out ((two_belowS wr _ _).block _ hsz)
              have hb2 : Below w.heap.size w W2 := by rw [← hW2]; exact HBA2.out _ _
              have hs2 : wr.heap.size ≤ W2.heap.size := by rw [← hW2]; simp; omega
              obtain ⟨w3, hput, mk3, gr3⟩ := mk2.put (by unfold maxLen; omega) hwf
              rw [← hW2] at hput
              have MK3 : Hid (SetAt w3 w.heap.size (i + 1) (idsF L (i + 1))) := by rw [ISi.out]; exact mk3
              have HB3 : Hid (Below w.heap.size w w3) := hb2.grown gr3 hb2.size (fun k hk => by cases hk; exact Nat.le_refl _)
              have hs3 : w.heap.size < w3.heap.size := by have := gr3.size; omega
              clear mk2 mk3 gr3 hb2 hs2 hW2 MK
              go_wp2_with fail
              go_roundg (n - (i + 1))
              case measure => omega
              case rel => exact ⟨i + 1, by omega, by omega, by go_num, HB3, hs3, MK3, HEE⟩
      · have hie : i = n := by omega
        subst hie
        have HEE : Hid ((0 : Int) = E) := EN.out.symm.trans HEi.out
        clear MK HEi
        go_wp2_with fail
        go_ret
        exact ⟨by rw [HEE.out]; rfl, HBr.out⟩
end Go.Proofs.Ytebhlcjljdgnkaa

namespace Go.Proofs.Ytebhlcjljdgnkaa
open Go.RowKit

def HostK (S : List Nd) (i : Nat) : Prop := (nd S i).h ≠ -1 → (nd S (nd S i).h.toNat).u = true ∧ ∀ i', i' < i → (nd S i').h ≠ (nd S i).h
def HostU (S : List Nd) (k : Nat) : Prop := ∀ i, i < k → HostK S i

instance (S : List Nd) (k : Nat) : Decidable (HostU S k) := by unfold HostU HostK; infer_instance

set_option maxHeartbeats 4000000 in
theorem hostsFit_any (a : Option Addr) (c : Nat) (S : List Nd) (w : World) (hN : S.length ≤ 24) (hP : ∀ i, i < S.length → -1 ≤ (nd S i).h ∧ (nd S i).h < S.length) (hS : NdsAt w a S) :
    Calls Try.prog 71 #[.slice a S.length c] w fun e w' => e = .returned (.bool (decide (HostU S S.length))) ∧ Below w.heap.size w w' := by
  have HKt : Hid (HostU S S.length → decide (HostU S S.length) = true) := fun h => decide_eq_true h
  have HKf : Hid (¬ HostU S S.length → decide (HostU S S.length) = false) := fun h => decide_eq_false h
  generalize decide (HostU S S.length) = KO at *
  have HS : Hid (NdsAt w a S) := hS
  have HP : Hid (∀ i, i < S.length → -1 ≤ (nd S i).h ∧ (nd S i).h < S.length) := hP
  clear hS hP
  generalize hn : S.length = n at *
  have HN : Hid (S.length = n) := hn
  clear hn
  have hmk := makeInts n hN
  go_enter Try.func71, Try.ntmps71
  go_wp2
  go_loopg [11] n (fun g s11 wr => ∃ (k : Nat) (f : Nat → Int), k ≤ n ∧ n - k ≤ g ∧ s11 = .int .i64 k ∧ Below w.heap.size w wr ∧ wr.rowIs w.heap.size 3 n (fun j => .int .i64 (f j)) ∧ Hid (∀ j, j < n → (f j = 0 ∧ ∀ i, i < k → (nd S i).h ≠ j) ∨ (f j = 1 ∧ ∃ i, i < k ∧ (nd S i).h = j)) ∧ Hid (HostU S k))
  case atStart =>
    exact ⟨0, fun _ => 0, by omega, by omega, rfl, (Below.refl _ _).alloc (Nat.le_refl _) _, World.rowIs_made _ _ _ _, (show Hid _ from fun j _ => Or.inl ⟨rfl, fun i hi => absurd hi (Nat.not_lt_zero _)⟩), (show Hid _ from fun i hi => absurd hi (Nat.not_lt_zero _))⟩
  case round =>
    obtain ⟨k, f, hk, hg, rfl, hb, hF, A, U⟩ := hrel
    by_cases hlt : k < n
    · obtain ⟨b, o, rfl, c0, c1, c2, c3, c4, ⟨ka, kc, c5, hks⟩, c6, c7⟩ := HS.out k (by rw [HN.out]; exact hlt)
      have hbw : b < w.heap.size := World.block_lt_of_cell? w ⟨b, o + k * 8, none⟩ c0
      rw [← hb.cell (by exact hbw)] at c0 c1 c2 c3 c4 c5 c6 c7
      have HF : Hid (wr.rowIs w.heap.size 3 n (fun j => .int .i64 (f j))) := hF
      have hwr := hF.lt
      obtain ⟨hh1, hh2⟩ := HP.out k hlt
      have STEP : Hid (HostK S k → HostU S (k + 1)) := fun h i hi => by
        by_cases e : i = k
        · rw [e]; exact h
        · exact U.out i (by omega)
      have BAD : Hid (¬ HostK S k → KO = false) := fun h => HKf.out (fun hu => h (hu k hlt))
      clear hks
      generalize hh : (nd S k).h = y at *
      have HH : Hid ((nd S k).h = y) := hh
      clear hh
      by_cases hy : y = -1
      · subst hy
        clear hF
        go_wp2
        go_roundg (n - (k + 1))
        case measure => omega
        case rel =>
          refine ⟨k + 1, f, by omega, by omega, by go_num, hb.alloc hb.size _, HF.out.alloc _, (show Hid _ from fun j hj => ?_), STEP.out (fun h => absurd HH.out h)⟩
          rcases A.out j hj with ⟨h0, h1⟩ | ⟨h0, i, hi, h1⟩
          · refine Or.inl ⟨h0, fun i hi => ?_⟩
            by_cases e : i = k
            · rw [e, HH.out]; omega
            · exact h1 i (by omega)
          · exact Or.inr ⟨h0, i, by omega, h1⟩
      · obtain ⟨j, rfl⟩ : ∃ j : Nat, y = (j : Int) := ⟨y.toNat, by omega⟩
        have hj : j < n := by omega
        obtain ⟨b', o', e', d0, _⟩ := HS.out j (by rw [HN.out]; exact hj)
        cases e'
        rw [← hb.cell (by exact hbw)] at d0
        have cst := hF.cell hj
        have hfz := hF.frozen
        have hv := A.out j hj
        have hy1 : ((j : Int) == -1) = false := by simp [hy]
        generalize hfj : f j = v at *
        have FJ : Hid (f j = v) := hfj
        have AV : Hid ((v = 0 ∧ ∀ i, i < k → (nd S i).h ≠ j) ∨ (v = 1 ∧ ∃ i, i < k ∧ (nd S i).h = j)) := hv
        have hv0 : 0 ≤ v := by omega
        have hv1 : v ≤ 1 := by omega
        clear hfj hv
        have d1 : ∀ v o1, ((wr.setCell ⟨w.heap.size, j, none⟩ v).alloc o1).cell? ⟨b, o + j * 8, none⟩ = some (.bool (nd S j).u) := fun v o1 => ((((Below.refl w.heap.size wr).setCell (Nat.le_refl _) v).alloc (by have := hF.lt; simp [World.setCell]; omega) o1).cell (by exact hbw)).trans d0
        clear hF
        cases hu : (nd S j).u with
        | false =>
          rw [hu] at d0 d1
          have Z : Hid _ := BAD.out (fun h => by have := (h (by rw [HH.out]; omega)).1; rw [HH.out] at this; simp [hu] at this)
          clear hu
          go_wp2
          go_ret
          exact ⟨by rw [Z.out]; rfl, (hb.setCell (Nat.le_refl _) _).alloc (by simpa using hb.size) _⟩
        | true =>
          rw [hu] at d0 d1
          by_cases hv : v = 0
          · subst hv
            have HK : Hid (HostK S k) := fun _ => ⟨by rw [HH.out]; simpa using hu, fun i hi => by
              rw [HH.out]
              rcases AV.out with ⟨_, h⟩ | ⟨h, _⟩
              · exact h i hi
              · omega⟩
            clear hu
            go_wp2
            go_roundg (n - (k + 1))
            case measure => omega
            case rel =>
              refine ⟨k + 1, fun i => if i = j then 1 else f i, by omega, by omega, by go_num, ?_, ?_, (show Hid _ from fun i hi => ?_), STEP.out HK.out⟩
              · exact (hb.setCell (Nat.le_refl _) _).alloc (by simpa using hb.size) _
              · refine ((HF.out.set j _).alloc _).congr (fun i _ => ?_)
                dsimp only
                by_cases e : i = j
                · rw [if_pos e, if_pos e]
                · rw [if_neg e, if_neg e]
              · dsimp only
                by_cases e : i = j
                · rw [if_pos e]
                  exact Or.inr ⟨rfl, k, by omega, by rw [HH.out, e]⟩
                · rw [if_neg e]
                  rcases A.out i hi with ⟨h0, h1⟩ | ⟨h0, r, hr, h1⟩
                  · refine Or.inl ⟨h0, fun r hr => ?_⟩
                    by_cases e2 : r = k
                    · rw [e2, HH.out]; omega
                    · exact h1 r (by omega)
                  · exact Or.inr ⟨h0, r, by omega, h1⟩
          · have hv : v = 1 := by omega
            subst hv
            have Z : Hid _ := BAD.out (fun h => by
              rcases AV.out with ⟨h0, _⟩ | ⟨_, r, hr, h1⟩
              · omega
              · exact (h (by rw [HH.out]; omega)).2 r hr (by rw [HH.out]; exact h1))
            clear hu
            go_wp2
            go_ret
            exact ⟨by rw [Z.out]; rfl, (hb.setCell (Nat.le_refl _) _).alloc (by simpa using hb.size) _⟩
    · have : k = n := by omega
      subst this
      clear hF
      go_wp2
      go_ret
      exact ⟨by rw [HKt.out U.out]; rfl, hb⟩
end Go.Proofs.Ytebhlcjljdgnkaa
