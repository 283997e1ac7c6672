/-
  The contracts of Attach where no root is made.
-/
import Derived.Test.YtfaaijoneaompaaGreatJXcZg
import Derived.Test.YtfaaijoneaompaaGreatJDbDcDe
import Derived.Test.YtfaaijoneaompaaGreatJWn
import Derived.Test.YtfaaijoneaompaaGreatJSnWd
import Derived.Test.YtfaaijoneaompaaGreatJWrXb
namespace Go.Proofs.YtfaaijoneaompaaGreat
open Go.RowKit

set_option maxRecDepth 100000 in
set_option maxHeartbeats 2000000 in
theorem attach_err1 (a : Option Addr) (c : Nat) (S : List Nd) (p u E : Int) (cl : Bool) (w : World) (hN : S.length ≤ 9223372036854775807) (hB : Big S) (hS : NdsAt w a S) (hE : findE S p u = E) (hE0 : E ≠ 0) :
    Calls Tryz.prog 60 #[.agg #[.slice a S.length c], .agg #[.int .i64 p, .int .i64 u], .bool cl] w fun e w' => e = .returned (.tuple #[.agg #[.slice none 0 0], .agg #[.int .i64 0, .int .i64 0], .int .i64 E]) ∧ Below w.heap.size w w' := by
  have D0 : Hid (∀ W, NdsAt W a S → Calls _ _ _ _ _) := fun W hW => find_err a c S p u E W hN hB hW hE hE0
  have HS : Hid (NdsAt w a S) := hS
  have hz0 : (E == 0) = false := by simp [hE0]
  clear hS hE hB hN
  generalize S.length = n at *
  have BW : Hid (∀ W, Below (w.heap.size + 1 + 1 + 1 + 1) ((((w.alloc (.cells #[.slice a n c] 24)).alloc (.cells #[.int .i64 p, .int .i64 u] 45)).alloc (.cells #[.slice none 0 0] 24)).alloc (.cells #[.int .i64 0, .int .i64 0] 45)) W → Below w.heap.size w W) := fun W h => (four_below _ _ _ _ _).trans (h.mono (by omega))
  go_enter Tryz.func60, Tryz.ntmps60
  go_wp2_with fail
  refine Calls.mono (D0.out _ (HS.out.below (four_below _ _ _ _ _))) ?_
  rintro e w2 ⟨rfl, hb2⟩
  simp only [World.size_alloc] at hb2
  have HB2 : Hid (Below (w.heap.size + 1 + 1 + 1 + 1) ((((w.alloc (.cells #[.slice a n c] 24)).alloc (.cells #[.int .i64 p, .int .i64 u] 45)).alloc (.cells #[.slice none 0 0] 24)).alloc (.cells #[.int .i64 0, .int .i64 0] 45)) w2) := hb2
  have hs2 := hb2.size
  simp only [World.size_alloc] at hs2
  obtain ⟨l0, l1, l2, l3, l4, l5, l6, l7⟩ := att_low hb2
  have q0 : w.heap.size < w2.heap.size := by omega
  have q1 : w.heap.size + 1 < w2.heap.size := by omega
  have q2 : w.heap.size + 1 + 1 < w2.heap.size := by omega
  have q3 : w.heap.size + 1 + 1 + 1 < w2.heap.size := by omega
  clear hb2
  have HBX : Hid _ := HB2
  go_wp2
  refine bodyPost_ret (v := .tuple #[.agg #[.slice none 0 0], .agg #[.int .i64 0, .int .i64 0], .int .i64 E]) (by simp only [results, Tryz.results60]; go_simp) rfl ⟨rfl, ?_⟩
  have hbo := BW.out _ HBX.out
  have hbs := HBX.out.size
  simp only [World.size_alloc] at hbs
  first
    | exact ((hbo.setCell (by simp; omega) _).setCell (by simp; omega) _).setCell (by simp; omega) _
    | exact (((hbo.setCell (by simp; omega) _).setCell (by simp; omega) _).setCell (by simp; omega) _).drew
    | exact (((hbo.alloc (by omega) _).setCell (by simp; omega) _).setCell (by simp; omega) _).setCell (by simp; omega) _
    | exact (((hbo.setCell (by simp; omega) _).setCell (by simp; omega) _).setCell (by simp; omega) _).alloc (by simp; omega) _
    | exact ((((hbo.alloc (by omega) _).alloc (by simp; omega) _).setCell (by simp; omega) _).setCell (by simp; omega) _).setCell (by simp; omega) _
    | exact ((((hbo.setCell (by simp; omega) _).setCell (by simp; omega) _).setCell (by simp; omega) _).alloc (by simp; omega) _).alloc (by simp; omega) _

set_option maxRecDepth 100000 in
set_option maxHeartbeats 2000000 in
theorem attach_err2 (a : Option Addr) (c : Nat) (S : List Nd) (k : Nat) (u : Int) (cl : Bool) (w : World) (wf : WF S) (hS : NdsAt w a S) (hk : k < S.length) (hE : findE S k u = 0) (hH : hostB S k = true) :
    Calls Tryz.prog 60 #[.agg #[.slice a S.length c], .agg #[.int .i64 (k : Int), .int .i64 u], .bool cl] w fun e w' => e = .returned (.tuple #[.agg #[.slice none 0 0], .agg #[.int .i64 0, .int .i64 0], .int .i64 6]) ∧ Below w.heap.size w w' := by
  have hN := wf.small
  have D0 : Hid (∀ W, NdsAt W a S → Calls _ _ _ _ _) := fun W hW => find_ok a c S k u W (by omega) wf.big hW hk hE (by have := wf.kids_small hk; omega)
  have d1 := fun W hW => isHost_any a c S (k : Int) W (by omega) hW (by omega)
  rw [hH] at d1
  have D1 : Hid _ := d1
  have HS : Hid (NdsAt w a S) := hS
  clear hS wf hE hH d1
  obtain ⟨x0, hx0⟩ : ∃ x, nd S k = x := ⟨_, rfl⟩
  rw [hx0] at D0
  clear hx0
  generalize S.length = n at *
  have BW : Hid (∀ W, Below (w.heap.size + 1 + 1 + 1 + 1) ((((w.alloc (.cells #[.slice a n c] 24)).alloc (.cells #[.int .i64 (k : Int), .int .i64 u] 45)).alloc (.cells #[.slice none 0 0] 24)).alloc (.cells #[.int .i64 0, .int .i64 0] 45)) W → Below w.heap.size w W) := fun W h => (four_below _ _ _ _ _).trans (h.mono (by omega))
  go_enter Tryz.func60, Tryz.ntmps60
  go_wp2_with fail
  refine Calls.mono (D0.out _ (HS.out.below (four_below _ _ _ _ _))) ?_
  rintro e w2 ⟨fg, rfl, hb2, _⟩
  simp only [World.size_alloc] at hb2
  have HB2 : Hid (Below (w.heap.size + 1 + 1 + 1 + 1) ((((w.alloc (.cells #[.slice a n c] 24)).alloc (.cells #[.int .i64 (k : Int), .int .i64 u] 45)).alloc (.cells #[.slice none 0 0] 24)).alloc (.cells #[.int .i64 0, .int .i64 0] 45)) w2) := hb2
  have hs2 := hb2.size
  simp only [World.size_alloc] at hs2
  obtain ⟨l0, l1, l2, l3, l4, l5, l6, l7⟩ := att_low hb2
  have q0 : w.heap.size < w2.heap.size := by omega
  have q1 : w.heap.size + 1 < w2.heap.size := by omega
  have q2 : w.heap.size + 1 + 1 < w2.heap.size := by omega
  have q3 : w.heap.size + 1 + 1 + 1 < w2.heap.size := by omega
  clear hb2
  go_wp2_with fail
  refine Calls.mono (D1.out _ (HS.out.below (BW.out _ (HB2.out.alloc (by omega) _)))) ?_
  rintro e w3 ⟨rfl, hb3⟩
  simp only [World.size_alloc] at hb3
  have HB3 : Hid (Below (w.heap.size + 1 + 1 + 1 + 1) ((((w.alloc (.cells #[.slice a n c] 24)).alloc (.cells #[.int .i64 (k : Int), .int .i64 u] 45)).alloc (.cells #[.slice none 0 0] 24)).alloc (.cells #[.int .i64 0, .int .i64 0] 45)) w3) := (HB2.out.alloc (by omega) _).trans (hb3.mono (by omega))
  have hs3 := hb3.size
  simp only [World.size_alloc] at hs3
  clear hb3 l0 l1 l2 l3 l4 l5 l6 l7 q0 q1 q2 q3
  obtain ⟨l0, l1, l2, l3, l4, l5, l6, l7⟩ := att_low HB3.out
  have q0 : w.heap.size < w3.heap.size := by omega
  have q1 : w.heap.size + 1 < w3.heap.size := by omega
  have q2 : w.heap.size + 1 + 1 < w3.heap.size := by omega
  have q3 : w.heap.size + 1 + 1 + 1 < w3.heap.size := by omega
  have HBX : Hid _ := HB3
  go_wp2
  refine bodyPost_ret (v := .tuple #[.agg #[.slice none 0 0], .agg #[.int .i64 0, .int .i64 0], .int .i64 6]) (by simp only [results, Tryz.results60]; go_simp) rfl ⟨rfl, ?_⟩
  have hbo := BW.out _ HBX.out
  have hbs := HBX.out.size
  simp only [World.size_alloc] at hbs
  first
    | exact ((hbo.setCell (by simp; omega) _).setCell (by simp; omega) _).setCell (by simp; omega) _
    | exact (((hbo.setCell (by simp; omega) _).setCell (by simp; omega) _).setCell (by simp; omega) _).drew
    | exact (((hbo.alloc (by omega) _).setCell (by simp; omega) _).setCell (by simp; omega) _).setCell (by simp; omega) _
    | exact (((hbo.setCell (by simp; omega) _).setCell (by simp; omega) _).setCell (by simp; omega) _).alloc (by simp; omega) _
    | exact ((((hbo.alloc (by omega) _).alloc (by simp; omega) _).setCell (by simp; omega) _).setCell (by simp; omega) _).setCell (by simp; omega) _
    | exact ((((hbo.setCell (by simp; omega) _).setCell (by simp; omega) _).setCell (by simp; omega) _).alloc (by simp; omega) _).alloc (by simp; omega) _

set_option maxRecDepth 100000 in
set_option maxHeartbeats 2000000 in
theorem attach_err3 (a : Option Addr) (c : Nat) (S : List Nd) (k : Nat) (u E : Int) (cl : Bool) (w : World) (wf : WF S) (hS : NdsAt w a S) (hk : k < S.length) (hE : findE S k u = 0) (hH : hostB S k = false) (hM : makeE S 0 = E) (hM0 : E ≠ 0) :
    Calls Tryz.prog 60 #[.agg #[.slice a S.length c], .agg #[.int .i64 (k : Int), .int .i64 u], .bool cl] w fun e w' => e = .returned (.tuple #[.agg #[.slice none 0 0], .agg #[.int .i64 0, .int .i64 0], .int .i64 E]) ∧ Below w.heap.size w w' := by
  have hN := wf.small
  have D0 : Hid (∀ W, NdsAt W a S → Calls _ _ _ _ _) := fun W hW => find_ok a c S k u W (by omega) wf.big hW hk hE (by have := wf.kids_small hk; omega)
  have d1 := fun W hW => isHost_any a c S (k : Int) W (by omega) hW (by omega)
  rw [hH] at d1
  have D1 : Hid _ := d1
  have D2 : Hid (∀ W, NdsAt W a S → Calls _ _ _ _ _) := fun W hW => make_err a c S 0 E W (by omega) wf.big hW hM hM0
  have HS : Hid (NdsAt w a S) := hS
  have hz0 : (E == 0) = false := by simp [hM0]
  clear hS wf hE hH d1 hM
  obtain ⟨x0, hx0⟩ : ∃ x, nd S k = x := ⟨_, rfl⟩
  rw [hx0] at D0
  clear hx0
  generalize S.length = n at *
  have BW : Hid (∀ W, Below (w.heap.size + 1 + 1 + 1 + 1) ((((w.alloc (.cells #[.slice a n c] 24)).alloc (.cells #[.int .i64 (k : Int), .int .i64 u] 45)).alloc (.cells #[.slice none 0 0] 24)).alloc (.cells #[.int .i64 0, .int .i64 0] 45)) W → Below w.heap.size w W) := fun W h => (four_below _ _ _ _ _).trans (h.mono (by omega))
  go_enter Tryz.func60, Tryz.ntmps60
  go_wp2_with fail
  refine Calls.mono (D0.out _ (HS.out.below (four_below _ _ _ _ _))) ?_
  rintro e w2 ⟨fg, rfl, hb2, _⟩
  simp only [World.size_alloc] at hb2
  have HB2 : Hid (Below (w.heap.size + 1 + 1 + 1 + 1) ((((w.alloc (.cells #[.slice a n c] 24)).alloc (.cells #[.int .i64 (k : Int), .int .i64 u] 45)).alloc (.cells #[.slice none 0 0] 24)).alloc (.cells #[.int .i64 0, .int .i64 0] 45)) w2) := hb2
  have hs2 := hb2.size
  simp only [World.size_alloc] at hs2
  obtain ⟨l0, l1, l2, l3, l4, l5, l6, l7⟩ := att_low hb2
  have q0 : w.heap.size < w2.heap.size := by omega
  have q1 : w.heap.size + 1 < w2.heap.size := by omega
  have q2 : w.heap.size + 1 + 1 < w2.heap.size := by omega
  have q3 : w.heap.size + 1 + 1 + 1 < w2.heap.size := by omega
  clear hb2
  go_wp2_with fail
  refine Calls.mono (D1.out _ (HS.out.below (BW.out _ (HB2.out.alloc (by omega) _)))) ?_
  rintro e w3 ⟨rfl, hb3⟩
  simp only [World.size_alloc] at hb3
  have HB3 : Hid (Below (w.heap.size + 1 + 1 + 1 + 1) ((((w.alloc (.cells #[.slice a n c] 24)).alloc (.cells #[.int .i64 (k : Int), .int .i64 u] 45)).alloc (.cells #[.slice none 0 0] 24)).alloc (.cells #[.int .i64 0, .int .i64 0] 45)) w3) := (HB2.out.alloc (by omega) _).trans (hb3.mono (by omega))
  have hs3 := hb3.size
  simp only [World.size_alloc] at hs3
  clear hb3 l0 l1 l2 l3 l4 l5 l6 l7 q0 q1 q2 q3
  obtain ⟨l0, l1, l2, l3, l4, l5, l6, l7⟩ := att_low HB3.out
  have q0 : w.heap.size < w3.heap.size := by omega
  have q1 : w.heap.size + 1 < w3.heap.size := by omega
  have q2 : w.heap.size + 1 + 1 < w3.heap.size := by omega
  have q3 : w.heap.size + 1 + 1 + 1 < w3.heap.size := by omega
  go_wp2_with fail
  refine Calls.mono (D2.out _ (HS.out.below (BW.out _ HB3.out))) ?_
  rintro e w4 ⟨rfl, hb4⟩
  have HB4 : Hid (Below (w.heap.size + 1 + 1 + 1 + 1) ((((w.alloc (.cells #[.slice a n c] 24)).alloc (.cells #[.int .i64 (k : Int), .int .i64 u] 45)).alloc (.cells #[.slice none 0 0] 24)).alloc (.cells #[.int .i64 0, .int .i64 0] 45)) w4) := HB3.out.trans (hb4.mono (by omega))
  have hs4 := hb4.size
  clear hb4 l0 l1 l2 l3 l4 l5 l6 l7 q0 q1 q2 q3
  obtain ⟨l0, l1, l2, l3, l4, l5, l6, l7⟩ := att_low HB4.out
  have q0 : w.heap.size < w4.heap.size := by omega
  have q1 : w.heap.size + 1 < w4.heap.size := by omega
  have q2 : w.heap.size + 1 + 1 < w4.heap.size := by omega
  have q3 : w.heap.size + 1 + 1 + 1 < w4.heap.size := by omega
  have HBX : Hid _ := HB4
  go_wp2
  refine bodyPost_ret (v := .tuple #[.agg #[.slice none 0 0], .agg #[.int .i64 0, .int .i64 0], .int .i64 E]) (by simp only [results, Tryz.results60]; go_simp) rfl ⟨rfl, ?_⟩
  have hbo := BW.out _ HBX.out
  have hbs := HBX.out.size
  simp only [World.size_alloc] at hbs
  first
    | exact ((hbo.setCell (by simp; omega) _).setCell (by simp; omega) _).setCell (by simp; omega) _
    | exact (((hbo.setCell (by simp; omega) _).setCell (by simp; omega) _).setCell (by simp; omega) _).drew
    | exact (((hbo.alloc (by omega) _).setCell (by simp; omega) _).setCell (by simp; omega) _).setCell (by simp; omega) _
    | exact (((hbo.setCell (by simp; omega) _).setCell (by simp; omega) _).setCell (by simp; omega) _).alloc (by simp; omega) _
    | exact ((((hbo.alloc (by omega) _).alloc (by simp; omega) _).setCell (by simp; omega) _).setCell (by simp; omega) _).setCell (by simp; omega) _
    | exact ((((hbo.setCell (by simp; omega) _).setCell (by simp; omega) _).setCell (by simp; omega) _).alloc (by simp; omega) _).alloc (by simp; omega) _
end Go.Proofs.YtfaaijoneaompaaGreat

namespace Go.Proofs.YtfaaijoneaompaaGreat
open Go.RowKit
set_option linter.unusedVariables false

def rS (E : Int) (T : List Nd) : List Nd := if E = 0 then T else []
def rH (E : Int) (h : Int × Int) : Int × Int := if E = 0 then h else (0, 0)
theorem rS_ok {T : List Nd} : rS 0 T = T := rfl
theorem rS_no {E : Int} {T : List Nd} (h : E ≠ 0) : rS E T = [] := if_neg h
theorem rH_no {E : Int} {T : Int × Int} (h : E ≠ 0) : rH E T = (0, 0) := if_neg h
theorem nds_nilD (W : World) : NdsAt W none [] := fun _ hi => absurd hi (Nat.not_lt_zero _)

/-- What a call that answers a store, a hand and an error answers. -/
abbrev StoHandD (f : Nat) (S T : List Nd) (more : Array Value) (h : Int × Int) (E : Int) : Prop := ∀ (a : Option Addr) (c : Nat) W, NdsAt W a S →
  Calls Tryz.prog f (#[.agg #[.slice a S.length c]] ++ more) W fun e w' => ∃ a' c', e = .returned (.tuple #[.agg #[.slice a' T.length c'], .agg #[.int .i64 h.1, .int .i64 h.2], .int .i64 E]) ∧ Below W.heap.size W w' ∧ NdsAt w' a' T
abbrev StoErrD (f : Nat) (S T : List Nd) (more : Array Value) (E : Int) : Prop := ∀ (a : Option Addr) (c : Nat) W, NdsAt W a S →
  Calls Tryz.prog f (#[.agg #[.slice a S.length c]] ++ more) W fun e w' => ∃ a' c', e = .returned (.tuple #[.agg #[.slice a' T.length c'], .int .i64 E]) ∧ Below W.heap.size W w' ∧ NdsAt w' a' T
abbrev hdV (h : Int × Int) : Value := .agg #[.int .i64 h.1, .int .i64 h.2]
def MakeAns (f : Nat) : Prop := ∀ (S : List Nd) (t : Int), WF S → StoHandD f S (rS (makeE S t) (mkS S t)) #[.int .i64 t] (rH (makeE S t) (mkH S)) (makeE S t)
def FreeAns (f : Nat) : Prop := ∀ (S : List Nd) (h : Int × Int), WF S → StoErrD f S (rS (freeE S h.1 h.2) (S.set h.1.toNat (freedNd (nd S h.1.toNat)))) #[hdV h] (freeE S h.1 h.2)
def RemoveAns (f : Nat) : Prop := ∀ (S : List Nd) (h : Int × Int), WF S → StoErrD f S (rS (remE S h.1 h.2) (leaveG S h.1.toNat)) #[hdV h] (remE S h.1 h.2)
def InsertAns (f : Nat) : Prop := ∀ (S : List Nd) (h g : Int × Int) (hs : List (Int × Int)) (ha : Option Addr) (hc : Nat), WF S → hs.length ≤ 1 → ∀ (a : Option Addr) (c : Nat) W, NdsAt W a S → HandsAt W ha hs →
  Calls Tryz.prog f #[.agg #[.slice a S.length c], hdV h, hdV g, .slice ha hs.length hc] W fun e w' => ∃ a' c', e = .returned (.tuple #[.agg #[.slice a' (rS (insE S h.1 h.2 g.1 g.2 hs) (insS S h.1 g.1 hs)).length c'], .int .i64 (insE S h.1 h.2 g.1 g.2 hs)]) ∧ Below W.heap.size W w' ∧ NdsAt w' a' (rS (insE S h.1 h.2 g.1 g.2 hs) (insS S h.1 g.1 hs))
def HostAns (f : Nat) : Prop := ∀ (S : List Nd) (h : Int × Int) (b : Bool), WF S → StoHandD f S (rS (hosE S h.1 h.2) (hosS S h.1 b)) #[hdV h, .bool b] (rH (hosE S h.1 h.2) (mkH S)) (hosE S h.1 h.2)
def CountAns (f : Nat) : Prop := ∀ (S : List Nd) (h : Int × Int) (t m : Int) (qa : Option Addr) (qc : Nat), WF S → ∀ (a : Option Addr) (c : Nat) W, NdsAt W a S → TestsAt W qa [⟨t, m, false⟩] →
  Calls Tryz.prog f #[.agg #[.slice a S.length c], hdV h, .slice qa 1 qc] W fun e w' => ∃ a' c' n, e = .returned (.tuple #[.slice a' n c', .int .i64 (cntE S h.1 h.2 [⟨t, m, false⟩])]) ∧ Below W.heap.size W w' ∧ n = if cntE S h.1 h.2 [⟨t, m, false⟩] = 0 then (foundF S h.1.toNat [⟨t, m, false⟩]).length else 0
def FlatAns (f : Nat) : Prop := ∀ (S : List Nd) (h : Int × Int), WF S → ∀ (a : Option Addr) (c : Nat) W, NdsAt W a S →
  Calls Tryz.prog f #[.agg #[.slice a S.length c], hdV h] W fun e w' => ∃ a' c' n, e = .returned (.tuple #[.slice a' n c', .int .i64 (findE S h.1 h.2)]) ∧ Below W.heap.size W w' ∧ n = if findE S h.1 h.2 = 0 then (flatF S h.1.toNat).length else 0

theorem tchk_find (S : List Nd) (p u : Int) : tcheckE S [(p, u)] = findE S p u := by
  unfold tcheckE findE handsE handsE
  by_cases h : holdsE S p u = 0
  · simp [h]
  · simp [h]
theorem par_or {S : List Nd} (wf : WF S) {ch : Nat} (hch : ch < S.length) : (nd S ch).p = -1 ∨ ∃ p0 : Nat, p0 < S.length ∧ p0 ≠ ch ∧ (nd S ch).p = p0 := by
  by_cases e : (nd S ch).p = -1
  · exact Or.inl e
  · obtain ⟨p0, e0, g1, g2, _⟩ := wf.parent_place hch e
    exact Or.inr ⟨p0, g1, g2, e0⟩
theorem kids_1000 {S : List Nd} (wf : WF S) : ∀ i, i < S.length → (nd S i).ks.length ≤ 1000 := fun i hi => by have := wf.kids_small hi; omega

set_option maxRecDepth 100000 in
theorem make_ans : MakeAns 46 := fun S t wf a c W hW => by
  have hN : S.length ≤ 9223372036854775807 := by have := wf.small; omega
  by_cases hE : makeE S t = 0
  · obtain ⟨_, ht, hf, hfr, hall⟩ := make_at hE
    rw [hE, rS_ok]
    refine (make_ok a c S t W wf.small (kids_1000 wf) hW ((wf_iff S).2 wf) ht.1 ht.2 (ffree S) hf hfr (wf.uses hf).1 hall).mono (fun e w' ⟨g, e1, hb, _, hn⟩ => ⟨some ⟨g, 0, none⟩, S.length, ?_, hb, hn w' (fun _ _ => rfl)⟩)
    rw [e1]
    unfold mkS
    rw [List.length_set]
    rfl
  · rw [rS_no hE, rH_no hE]
    exact (make_err a c S t _ W hN wf.big hW rfl hE).mono (fun e w' ⟨e1, hb⟩ => ⟨none, 0, e1, hb, nds_nilD _⟩)
set_option maxRecDepth 100000 in
theorem free_ans : FreeAns 25 := fun S h wf a c W hW => by
  obtain ⟨P, U⟩ := h
  dsimp only [hdV]
  have hN : S.length ≤ 9223372036854775807 := by have := wf.small; omega
  unfold freeE
  by_cases hE : findE S P U = 0
  · rw [if_pos hE]
    obtain ⟨_, k, e, hk, hu, hkn⟩ := held_at hE
    subst e
    rw [Int.toNat_natCast]
    by_cases hl : looseB S k
    · rw [if_pos hl, rS_ok]
      refine (free_ok a c S k U W wf.small (kids_1000 wf) hW hk hE hl).mono (fun e w' ⟨g, e1, hb, _, hn⟩ => ⟨some ⟨g, 0, none⟩, S.length, ?_, hb, hn w' (fun _ _ => rfl)⟩)
      rw [e1, List.length_set]
    · rw [if_neg hl, rS_no (by decide)]
      exact (free_tree a c S k U W hN wf.big hW hk hE (by have := kids_1000 wf k hk; omega) hl).mono (fun e w' ⟨e1, hb⟩ => ⟨none, 0, e1, hb, nds_nilD _⟩)
  · rw [if_neg hE, rS_no hE]
    exact (free_err a c S P U _ W hN wf.big hW rfl hE).mono (fun e w' ⟨e1, hb⟩ => ⟨none, 0, e1, hb, nds_nilD _⟩)
set_option maxRecDepth 100000 in
theorem remove_ans : RemoveAns 26 := fun S h wf a c W hW => by
  obtain ⟨P, U⟩ := h
  dsimp only [hdV]
  have hN : S.length ≤ 9223372036854775807 := by have := wf.small; omega
  unfold remE
  by_cases hE : findE S P U = 0
  · rw [if_pos hE]
    obtain ⟨_, k, e, hk, hu, hkn⟩ := held_at hE
    subst e
    rw [Int.toNat_natCast]
    have hT : tcheckE S [((k : Int), U)] = 0 := (tchk_find _ _ _).trans hE
    rcases par_or wf hk with hp | ⟨p0, hp1, hp2, hp3⟩
    · rw [if_pos hp, rS_no (by decide)]
      exact (remove_none a c S k U W hN wf.big hW hT hk hp).mono (fun e w' ⟨e1, hb⟩ => ⟨none, 0, e1, hb, nds_nilD _⟩)
    · have hG : leaveG S k = leaveS S p0 k := by unfold leaveG; rw [if_neg (by omega), hp3, Int.toNat_natCast]
      rw [if_neg (by omega), rS_ok, hG]
      refine (remove_ok a c S k p0 U W wf.small wf.big hW hT hk hp1 hp2 hp3 (kids_1000 wf)).mono (fun e w' ⟨g, e1, hb, _, hn⟩ => ⟨some ⟨g, 0, none⟩, S.length, ?_, hb, hn w' (fun _ _ => rfl)⟩)
      rw [e1, leaveS_length]
  · rw [if_neg hE, rS_no hE]
    exact (remove_err a c S P U _ W hN wf.big hW (tchk_find _ _ _) hE).mono (fun e w' ⟨e1, hb⟩ => ⟨none, 0, e1, hb, nds_nilD _⟩)
set_option maxRecDepth 100000 in
theorem host_ans : HostAns 60 := fun S h cl wf a c W hW => by
  obtain ⟨P, U⟩ := h
  dsimp only [hdV]
  have hN : S.length ≤ 9223372036854775807 := by have := wf.small; omega
  unfold hosE
  by_cases hE : findE S P U = 0
  · rw [if_pos hE]
    obtain ⟨_, k, e, hk, hu, hkn⟩ := held_at hE
    subst e
    by_cases hH : hostB S (k : Int) = true
    · rw [if_pos hH, rS_no (by decide), rH_no (by decide)]
      exact (attach_err2 a c S k U cl W wf hW hk hE hH).mono (fun e w' ⟨e1, hb⟩ => ⟨none, 0, e1, hb, nds_nilD _⟩)
    · rw [if_neg hH]
      have hH2 : hostB S (k : Int) = false := by simpa using hH
      by_cases hM : makeE S 0 = 0
      · obtain ⟨_, ht, hf, hfr, hall⟩ := make_at hM
        rw [hM, rS_ok]
        unfold hosS
        rw [Int.toNat_natCast]
        refine (attach_ok a c S k (ffree S) U cl W wf hW hk hE hH2 hf hfr hall).mono (fun e w' ⟨g, e1, hb, _, ho⟩ => ⟨some ⟨g, 0, none⟩, S.length, ?_, hb, ho.nds⟩)
        rw [e1, List.length_set]
        rfl
      · rw [rS_no hM, rH_no hM]
        exact (attach_err3 a c S k U _ cl W wf hW hk hE hH2 rfl hM).mono (fun e w' ⟨e1, hb⟩ => ⟨none, 0, e1, hb, nds_nilD _⟩)
  · rw [if_neg hE, rS_no hE, rH_no hE]
    exact (attach_err1 a c S P U _ cl W hN wf.big hW rfl hE).mono (fun e w' ⟨e1, hb⟩ => ⟨none, 0, e1, hb, nds_nilD _⟩)
set_option maxRecDepth 100000 in
theorem way_case {S : List Nd} {P pu C cu : Int} {hs : List (Int × Int)} (wf : WF S) (hm : hs.length ≤ 1) : InsWay S (rS (insE S P pu C cu hs) (insS S P C hs)) P C cu hs (tcheckE S ((P, pu) :: (C, cu) :: hs)) (insE S P pu C cu hs) := by
  by_cases hE : tcheckE S ((P, pu) :: (C, cu) :: hs) = 0
  · obtain ⟨_, hx⟩ := tchk_wf hE
    obtain ⟨pa, e1, hpa, hpu, hpn⟩ := hx (P, pu) (by simp)
    obtain ⟨ch, e2, hch, hcu, hcn⟩ := hx (C, cu) (by simp)
    dsimp only at e1 e2 hpn hcn
    subst e1
    subst e2
    have hK := kids_1000 wf
    refine .inr ⟨pa, ch, rfl, rfl, hE, wf.small, hpa, hch, fun hf => ?_, fun hf => ⟨fun h hh => ?_, ?_⟩⟩
    · have e : insE S pa pu ch cu hs = 6 := by unfold insE; rw [if_pos hE, Int.toNat_natCast, Int.toNat_natCast, if_neg (by rw [hf]; decide)]
      rw [e]
      exact ⟨rfl, rS_no (by decide)⟩
    · obtain ⟨q, e, hq, _⟩ := hx h (by simp [hh])
      exact ⟨q, e, hq⟩
    · have pt : Puts S pa ch := ⟨wf, hpa, hch, hpu, hcu, hf⟩
      obtain ⟨f1, f2, f3⟩ := fits_parts hf
      have hl := leaveG_length S ch
      have hp0 := par_or wf hch
      unfold insE insS
      rw [if_pos hE]
      simp only [Int.toNat_natCast]
      rw [if_pos hf]
      match hs, hm, hE, hx with
      | [], _, hE, hx =>
        exact ⟨fun ⟨h, hh, _⟩ => (by cases hh), fun _ => ⟨rfl, hK, by rw [rS_ok, enterS_length, hl], .inr ⟨by simp, f2, hp0, (nd (leaveG S ch) pa).ks.length, rfl, by omega, rS_ok⟩⟩⟩
      | [(Q, qu)], _, hE, hx =>
        obtain ⟨q, e3, hq, hqu, hqn⟩ := hx (Q, qu) (by simp)
        dsimp only at e3 hqn
        subst e3
        dsimp only
        rw [Int.toNat_natCast]
        have hone : ∀ h ∈ [((q : Int), qu)], (nd S h.1.toNat).p = (nd S q).p := fun h hh => by
          have : h = ((q : Int), qu) := by simpa using hh
          subst this
          rw [Int.toNat_natCast]
        by_cases hqp : (nd S q).p = pa
        · rw [if_pos hqp, rS_ok]
          refine ⟨fun ⟨h, hh, hne⟩ => absurd ((hone h hh).trans hqp) hne, fun _ => ?_⟩
          by_cases hqc : q = ch
          · subst hqc
            have hcq : cu = qu := by omega
            subst hcq
            rw [if_pos rfl]
            exact ⟨rfl, hK, rfl, .inl ⟨List.mem_singleton.2 rfl, rfl⟩⟩
          · rw [if_neg (by omega)]
            obtain ⟨at', hat, hatL, hatq⟩ := pt.ahead hq hqp hqc
            rw [hat, Int.toNat_natCast]
            exact ⟨rfl, hK, by rw [enterS_length, hl], .inr ⟨fun e => hqc (by have := congrArg Prod.fst (List.mem_singleton.1 e); simp at this; omega), f2, hp0, at', hat, by omega, rfl⟩⟩
        · rw [if_neg hqp]
          exact ⟨fun _ => ⟨rfl, rS_no (by decide)⟩, fun h => absurd ((hone _ (List.mem_singleton.2 rfl)).symm.trans (h _ (List.mem_singleton.2 rfl))) hqp⟩
      | _ :: _ :: _, h, _, _ => exact absurd h (by simp)
  · have e : insE S P pu C cu hs = tcheckE S ((P, pu) :: (C, cu) :: hs) := by unfold insE; rw [if_neg hE]
    exact .inl ⟨hE, e, by rw [e, rS_no hE]⟩
theorem insert_ans : InsertAns 59 := fun S h g hs ha hc wf hm a c W hW hH =>
  insert_all a c S h.1 g.1 h.2 g.2 ha hc hs _ _ _ W (by have := wf.small; omega) wf.big hW hH hm rfl (way_case wf hm)
set_option maxRecDepth 100000 in
theorem count_ans : CountAns 56 := fun S h t m qa qc wf a c W hW hQ => by
  obtain ⟨P, U⟩ := h
  dsimp only [hdV]
  have hN : S.length ≤ 9223372036854775807 := by have := wf.small; omega
  unfold cntE
  by_cases hE : findE S P U = 0
  · rw [if_pos hE]
    obtain ⟨_, k, e, hk, hu, hkn⟩ := held_at hE
    subst e
    rw [Int.toNat_natCast]
    by_cases hq : qcheckE [⟨t, m, false⟩] = 0
    · rw [hq, if_pos rfl]
      exact (qfind_ok a c S k U qa qc [⟨t, m, false⟩] W wf hk hu ((tchk_find _ _ _).trans hE) hW hQ hq).mono (fun e w' ⟨fa, fc, e1, hb, hi, _⟩ => ⟨fa, fc, _, e1, hb, rfl⟩)
    · rw [if_neg hq]
      exact (qfind_bad a c S k U _ qa qc [⟨t, m, false⟩] W wf hk ((tchk_find _ _ _).trans hE) hW (by simp) hQ rfl hq).mono (fun e w' ⟨e1, hb⟩ => ⟨none, 0, 0, e1, hb, rfl⟩)
  · rw [if_neg hE, if_neg hE]
    exact (qfind_err a c S P U _ _ W hN wf.big hW (tchk_find _ _ _) hE).mono (fun e w' ⟨e1, hb⟩ => ⟨none, 0, 0, e1, hb, rfl⟩)
set_option maxRecDepth 100000 in
theorem flat_ans : FlatAns 57 := fun S h wf a c W hW => by
  obtain ⟨P, U⟩ := h
  dsimp only [hdV]
  have hN : S.length ≤ 9223372036854775807 := by have := wf.small; omega
  by_cases hE : findE S P U = 0
  · obtain ⟨_, k, e, hk, hu, hkn⟩ := held_at hE
    subst e
    rw [Int.toNat_natCast, hE, if_pos rfl]
    exact (flat_ok a c S k U W wf hW hk hE).mono (fun e w' ⟨sa, sc, e1, hb, hi⟩ => ⟨sa, sc, _, e1, hb, rfl⟩)
  · rw [if_neg hE]
    exact (flat_err a c S P U _ W hN wf.big hW rfl hE).mono (fun e w' ⟨e1, hb⟩ => ⟨none, 0, 0, e1, hb, rfl⟩)
end Go.Proofs.YtfaaijoneaompaaGreat
