/-
  What the calls on stores answer, as functions of the store (for realms); the program's.
-/
import Derived.Test.YtgjfmepbphfjoaaGreatUDbDcZg
import Derived.Test.YtgjfmepbphfjoaaGreatUSmBoSpLay
import Derived.Test.YtgjfmepbphfjoaaGreatUWn
import Derived.Test.YtgjfmepbphfjoaaGreatUUbWbWdSr
import Derived.Test.YtgjfmepbphfjoaaGreatUWrXc
import Derived.Test.YtgjfmepbphfjoaaGreatUDeZh
namespace Go.Proofs.YtgjfmepbphfjoaaGreat
open Go.RowKit
set_option linter.unusedVariables false

def rS (E : Int) (T : List Nd) : List Nd := if E = 0 then T else []
def rH (E : Int) (h : Int × Int) : Int × Int := if E = 0 then h else (0, 0)
theorem rS_ok {T : List Nd} : rS 0 T = T := rfl
theorem rS_no {E : Int} {T : List Nd} (h : E ≠ 0) : rS E T = [] := if_neg h
theorem rH_no {E : Int} {T : Int × Int} (h : E ≠ 0) : rH E T = (0, 0) := if_neg h
theorem nds_nilD (W : World) : NdsAt W none [] := fun _ hi => absurd hi (Nat.not_lt_zero _)

/-- What a call that answers a store, a hand and an error answers. -/
abbrev StoHandD (f : Nat) (S T : List Nd) (more : Array Value) (h : Int × Int) (E : Int) : Prop := ∀ (a : Option Addr) (c : Nat) W, NdsAt W a S →
  Calls Tryz.prog f (#[.agg #[.slice a S.length c]] ++ more) W fun e w' => ∃ a' c', e = .returned (.tuple #[.agg #[.slice a' T.length c'], .agg #[.int .i64 h.1, .int .i64 h.2], .int .i64 E]) ∧ Below W.heap.size W w' ∧ NdsAt w' a' T
abbrev StoErrD (f : Nat) (S T : List Nd) (more : Array Value) (E : Int) : Prop := ∀ (a : Option Addr) (c : Nat) W, NdsAt W a S →
  Calls Tryz.prog f (#[.agg #[.slice a S.length c]] ++ more) W fun e w' => ∃ a' c', e = .returned (.tuple #[.agg #[.slice a' T.length c'], .int .i64 E]) ∧ Below W.heap.size W w' ∧ NdsAt w' a' T
/-- The same, the store in memory of its own. -/
abbrev StoErrX (f : Nat) (S T : List Nd) (more : Array Value) (E : Int) : Prop := ∀ (a : Option Addr) (c : Nat) W, NdsAt W a S →
  Calls Tryz.prog f (#[.agg #[.slice a S.length c]] ++ more) W fun e w' => ∃ a' c', e = .returned (.tuple #[.agg #[.slice a' T.length c'], .int .i64 E]) ∧ Below W.heap.size W w' ∧ St (fun b => b < W.heap.size) (fun V => NdsAt V a' T) w'
theorem st_up {w' : World} {a : Option Addr} {T : List Nd} {B g : Nat} (hg : B ≤ g) (hn : ∀ w3 : World, (∀ b, g ≤ b → w3.heap[b]? = w'.heap[b]?) → NdsAt w3 a T) : St (fun b => b < B) (fun V => NdsAt V a T) w' := fun V ho => by
  have e : ∀ b, b < w'.heap.size → (V.heap.extract 0 w'.heap.size)[b]? = V.heap[b]? := fun b hb => by
    have := ho.size
    simp [Array.getElem?_extract]
    omega
  have h := hn { V with heap := V.heap.extract 0 w'.heap.size } (fun b hb => by
    show (V.heap.extract 0 w'.heap.size)[b]? = w'.heap[b]?
    by_cases h1 : b < w'.heap.size
    · rw [e b h1]
      exact ho.block b h1 (by show ¬ b < B; omega)
    · rw [Array.getElem?_eq_none (by simp; omega), Array.getElem?_eq_none (by omega)])
  have hsz : (V.heap.extract 0 w'.heap.size).size = w'.heap.size := by have := ho.size; simp; omega
  exact h.below ⟨rfl, rfl, rfl, by show (V.heap.extract 0 w'.heap.size).size ≤ _; rw [hsz]; exact ho.size, fun b hb => (e b (by rw [← hsz]; exact hb)).symm⟩
abbrev hdV (h : Int × Int) : Value := .agg #[.int .i64 h.1, .int .i64 h.2]
def MakeAns (f : Nat) : Prop := ∀ (S : List Nd) (t : Int), WF S → StoHandD f S (rS (makeE S t) (mkS S t)) #[.int .i64 t] (rH (makeE S t) (mkH S)) (makeE S t)
def FreeAns (f : Nat) : Prop := ∀ (S : List Nd) (h : Int × Int), WF S → StoErrD f S (rS (freeE S h.1 h.2) (S.set h.1.toNat (freedNd (nd S h.1.toNat)))) #[hdV h] (freeE S h.1 h.2)
def RemoveAns (f : Nat) : Prop := ∀ (S : List Nd) (h : Int × Int), WF S → StoErrD f S (rS (remE S h.1 h.2) (leaveG S h.1.toNat)) #[hdV h] (remE S h.1 h.2)
def InsertAns (f : Nat) : Prop := ∀ (S : List Nd) (h g : Int × Int) (hs : List (Int × Int)) (ha : Option Addr) (hc : Nat), WF S → hs.length ≤ 1 → ∀ (a : Option Addr) (c : Nat) W, NdsAt W a S → HandsAt W ha hs →
  Calls Tryz.prog f #[.agg #[.slice a S.length c], hdV h, hdV g, .slice ha hs.length hc] W fun e w' => ∃ a' c', e = .returned (.tuple #[.agg #[.slice a' (rS (insE S h.1 h.2 g.1 g.2 hs) (insS S h.1 g.1 hs)).length c'], .int .i64 (insE S h.1 h.2 g.1 g.2 hs)]) ∧ Below W.heap.size W w' ∧ NdsAt w' a' (rS (insE S h.1 h.2 g.1 g.2 hs) (insS S h.1 g.1 hs))
def FreeAnsX (f : Nat) : Prop := ∀ (S : List Nd) (h : Int × Int), WF S → StoErrX f S (rS (freeE S h.1 h.2) (S.set h.1.toNat (freedNd (nd S h.1.toNat)))) #[hdV h] (freeE S h.1 h.2)
def RemoveAnsX (f : Nat) : Prop := ∀ (S : List Nd) (h : Int × Int), WF S → StoErrX f S (rS (remE S h.1 h.2) (leaveG S h.1.toNat)) #[hdV h] (remE S h.1 h.2)
def InsertAnsX (f : Nat) : Prop := ∀ (S : List Nd) (h g : Int × Int) (hs : List (Int × Int)) (ha : Option Addr) (hc : Nat), WF S → hs.length ≤ 1 → ∀ (a : Option Addr) (c : Nat) W, NdsAt W a S → HandsAt W ha hs →
  Calls Tryz.prog f #[.agg #[.slice a S.length c], hdV h, hdV g, .slice ha hs.length hc] W fun e w' => ∃ a' c', e = .returned (.tuple #[.agg #[.slice a' (rS (insE S h.1 h.2 g.1 g.2 hs) (insS S h.1 g.1 hs)).length c'], .int .i64 (insE S h.1 h.2 g.1 g.2 hs)]) ∧ Below W.heap.size W w' ∧ St (fun b => b < W.heap.size) (fun V => NdsAt V a' (rS (insE S h.1 h.2 g.1 g.2 hs) (insS S h.1 g.1 hs))) w'
def HostAns (f : Nat) : Prop := ∀ (S : List Nd) (h : Int × Int) (b : Bool), WF S → StoHandD f S (rS (hosE S h.1 h.2) (hosS S h.1 b)) #[hdV h, .bool b] (rH (hosE S h.1 h.2) (mkH S)) (hosE S h.1 h.2)
def CountAns (f : Nat) : Prop := ∀ (S : List Nd) (h : Int × Int) (t m : Int) (qa : Option Addr) (qc : Nat), WF S → ∀ (a : Option Addr) (c : Nat) W, NdsAt W a S → TestsAt W qa [⟨t, m, false⟩] →
  Calls Tryz.prog f #[.agg #[.slice a S.length c], hdV h, .slice qa 1 qc] W fun e w' => ∃ a' c' n, e = .returned (.tuple #[.slice a' n c', .int .i64 (cntE S h.1 h.2 [⟨t, m, false⟩])]) ∧ Below W.heap.size W w' ∧ n = if cntE S h.1 h.2 [⟨t, m, false⟩] = 0 then (foundF S h.1.toNat [⟨t, m, false⟩]).length else 0
def FlatAns (f : Nat) : Prop := ∀ (S : List Nd) (h : Int × Int), WF S → ∀ (a : Option Addr) (c : Nat) W, NdsAt W a S →
  Calls Tryz.prog f #[.agg #[.slice a S.length c], hdV h] W fun e w' => ∃ a' c' n, e = .returned (.tuple #[.slice a' n c', .int .i64 (findE S h.1 h.2)]) ∧ Below W.heap.size W w' ∧ n = if findE S h.1 h.2 = 0 then (flatF S h.1.toNat).length else 0

theorem tchk_find (S : List Nd) (p u : Int) : tcheckE S [(p, u)] = findE S p u := by
  unfold tcheckE findE handsE handsE
  by_cases h : holdsE S p u = 0
  · simp [h]
  · simp [h]
theorem par_or {S : List Nd} (wf : WF S) {ch : Nat} (hch : ch < S.length) : (nd S ch).p = -1 ∨ ∃ p0 : Nat, p0 < S.length ∧ p0 ≠ ch ∧ (nd S ch).p = p0 := by
  by_cases e : (nd S ch).p = -1
  · exact Or.inl e
  · obtain ⟨p0, e0, g1, g2, _⟩ := wf.parent_place hch e
    exact Or.inr ⟨p0, g1, g2, e0⟩
theorem kids_1000 {S : List Nd} (wf : WF S) : ∀ i, i < S.length → (nd S i).ks.length ≤ 1000 := fun i hi => by have := wf.kids_small hi; omega

set_option maxRecDepth 100000 in
theorem free_ans : FreeAnsX 57 := fun S h wf a c W hW => by
  obtain ⟨P, U⟩ := h
  dsimp only [hdV]
  have hN : S.length ≤ 9223372036854775807 := by have := wf.small; omega
  unfold freeE
  by_cases hE : findE S P U = 0
  · rw [if_pos hE]
    obtain ⟨_, k, e, hk, hu, hkn⟩ := held_at hE
    subst e
    rw [Int.toNat_natCast]
    by_cases hl : looseB S k
    · rw [if_pos hl, rS_ok]
      refine (free_ok a c S k U W wf.small (kids_1000 wf) hW hk hE hl).mono (fun e w' ⟨g, e1, hb, hg, hn⟩ => ⟨some ⟨g, 0, none⟩, S.length, ?_, hb, st_up hg hn⟩)
      rw [e1, List.length_set]
    · rw [if_neg hl, rS_no (by decide)]
      exact (free_tree a c S k U W hN wf.big hW hk hE (by have := kids_1000 wf k hk; omega) hl).mono (fun e w' ⟨e1, hb⟩ => ⟨none, 0, e1, hb, fun V _ => nds_nilD V⟩)
  · rw [if_neg hE, rS_no hE]
    exact (free_err a c S P U _ W hN wf.big hW rfl hE).mono (fun e w' ⟨e1, hb⟩ => ⟨none, 0, e1, hb, fun V _ => nds_nilD V⟩)
set_option maxRecDepth 100000 in
theorem remove_ans : RemoveAnsX 58 := fun S h wf a c W hW => by
  obtain ⟨P, U⟩ := h
  dsimp only [hdV]
  have hN : S.length ≤ 9223372036854775807 := by have := wf.small; omega
  unfold remE
  by_cases hE : findE S P U = 0
  · rw [if_pos hE]
    obtain ⟨_, k, e, hk, hu, hkn⟩ := held_at hE
    subst e
    rw [Int.toNat_natCast]
    have hT : tcheckE S [((k : Int), U)] = 0 := (tchk_find _ _ _).trans hE
    rcases par_or wf hk with hp | ⟨p0, hp1, hp2, hp3⟩
    · rw [if_pos hp, rS_no (by decide)]
      exact (remove_none a c S k U W hN wf.big hW hT hk hp).mono (fun e w' ⟨e1, hb⟩ => ⟨none, 0, e1, hb, fun V _ => nds_nilD V⟩)
    · have hG : leaveG S k = leaveS S p0 k := by unfold leaveG; rw [if_neg (by omega), hp3, Int.toNat_natCast]
      rw [if_neg (by omega), rS_ok, hG]
      refine (remove_ok a c S k p0 U W wf.small wf.big hW hT hk hp1 hp2 hp3 (kids_1000 wf)).mono (fun e w' ⟨g, e1, hb, hg, hn⟩ => ⟨some ⟨g, 0, none⟩, S.length, ?_, hb, st_up hg hn⟩)
      rw [e1, leaveS_length]
  · rw [if_neg hE, rS_no hE]
    exact (remove_err a c S P U _ W hN wf.big hW (tchk_find _ _ _) hE).mono (fun e w' ⟨e1, hb⟩ => ⟨none, 0, e1, hb, fun V _ => nds_nilD V⟩)
set_option maxRecDepth 100000 in
theorem way_case {S : List Nd} {P pu C cu : Int} {hs : List (Int × Int)} (wf : WF S) (hm : hs.length ≤ 1) : InsWay S (rS (insE S P pu C cu hs) (insS S P C hs)) P C cu hs (tcheckE S ((P, pu) :: (C, cu) :: hs)) (insE S P pu C cu hs) := by
  by_cases hE : tcheckE S ((P, pu) :: (C, cu) :: hs) = 0
  · obtain ⟨_, hx⟩ := tchk_wf hE
    obtain ⟨pa, e1, hpa, hpu, hpn⟩ := hx (P, pu) (by simp)
    obtain ⟨ch, e2, hch, hcu, hcn⟩ := hx (C, cu) (by simp)
    dsimp only at e1 e2 hpn hcn
    subst e1
    subst e2
    have hK := kids_1000 wf
    refine .inr ⟨pa, ch, rfl, rfl, hE, wf.small, hpa, hch, fun hf => ?_, fun hf => ⟨fun h hh => ?_, ?_⟩⟩
    · have e : insE S pa pu ch cu hs = 6 := by unfold insE; rw [if_pos hE, Int.toNat_natCast, Int.toNat_natCast, if_neg (by rw [hf]; decide)]
      rw [e]
      exact ⟨rfl, rS_no (by decide)⟩
    · obtain ⟨q, e, hq, _⟩ := hx h (by simp [hh])
      exact ⟨q, e, hq⟩
    · have pt : Puts S pa ch := ⟨wf, hpa, hch, hpu, hcu, hf⟩
      obtain ⟨f1, f2, f3⟩ := fits_parts hf
      have hl := leaveG_length S ch
      have hp0 := par_or wf hch
      unfold insE insS
      rw [if_pos hE]
      simp only [Int.toNat_natCast]
      rw [if_pos hf]
      match hs, hm, hE, hx with
      | [], _, hE, hx =>
        exact ⟨fun ⟨h, hh, _⟩ => (by cases hh), fun _ => ⟨rfl, hK, by rw [rS_ok, enterS_length, hl], .inr ⟨by simp, f2, hp0, (nd (leaveG S ch) pa).ks.length, rfl, by omega, rS_ok⟩⟩⟩
      | [(Q, qu)], _, hE, hx =>
        obtain ⟨q, e3, hq, hqu, hqn⟩ := hx (Q, qu) (by simp)
        dsimp only at e3 hqn
        subst e3
        dsimp only
        rw [Int.toNat_natCast]
        have hone : ∀ h ∈ [((q : Int), qu)], (nd S h.1.toNat).p = (nd S q).p := fun h hh => by
          have : h = ((q : Int), qu) := by simpa using hh
          subst this
          rw [Int.toNat_natCast]
        by_cases hqp : (nd S q).p = pa
        · rw [if_pos hqp, rS_ok]
          refine ⟨fun ⟨h, hh, hne⟩ => absurd ((hone h hh).trans hqp) hne, fun _ => ?_⟩
          by_cases hqc : q = ch
          · subst hqc
            have hcq : cu = qu := by omega
            subst hcq
            rw [if_pos rfl]
            exact ⟨rfl, hK, rfl, .inl ⟨List.mem_singleton.2 rfl, rfl⟩⟩
          · rw [if_neg (by omega)]
            obtain ⟨at', hat, hatL, hatq⟩ := pt.ahead hq hqp hqc
            rw [hat, Int.toNat_natCast]
            exact ⟨rfl, hK, by rw [enterS_length, hl], .inr ⟨fun e => hqc (by have := congrArg Prod.fst (List.mem_singleton.1 e); simp at this; omega), f2, hp0, at', hat, by omega, rfl⟩⟩
        · rw [if_neg hqp]
          exact ⟨fun _ => ⟨rfl, rS_no (by decide)⟩, fun h => absurd ((hone _ (List.mem_singleton.2 rfl)).symm.trans (h _ (List.mem_singleton.2 rfl))) hqp⟩
      | _ :: _ :: _, h, _, _ => exact absurd h (by simp)
  · have e : insE S P pu C cu hs = tcheckE S ((P, pu) :: (C, cu) :: hs) := by unfold insE; rw [if_neg hE]
    exact .inl ⟨hE, e, by rw [e, rS_no hE]⟩
theorem insert_ans : InsertAnsX 112 := fun S h g hs ha hc wf hm a c W hW hH =>
  (insert_all a c S h.1 g.1 h.2 g.2 ha hc hs _ _ _ W (by have := wf.small; omega) wf.big hW hH hm rfl (way_case wf hm)).mono (fun e w' ⟨a', c', e1, hb, hn⟩ => ⟨a', c', e1, hb, st_up (Nat.le_refl _) hn⟩)
set_option maxRecDepth 100000 in
theorem count_ans : CountAns 109 := fun S h t m qa qc wf a c W hW hQ => by
  obtain ⟨P, U⟩ := h
  dsimp only [hdV]
  have hN : S.length ≤ 9223372036854775807 := by have := wf.small; omega
  unfold cntE
  by_cases hE : findE S P U = 0
  · rw [if_pos hE]
    obtain ⟨_, k, e, hk, hu, hkn⟩ := held_at hE
    subst e
    rw [Int.toNat_natCast]
    by_cases hq : qcheckE [⟨t, m, false⟩] = 0
    · rw [hq, if_pos rfl]
      exact (qfind_ok a c S k U qa qc [⟨t, m, false⟩] W wf hk hu ((tchk_find _ _ _).trans hE) hW hQ hq).mono (fun e w' ⟨fa, fc, e1, hb, hi, _⟩ => ⟨fa, fc, _, e1, hb, rfl⟩)
    · rw [if_neg hq]
      exact (qfind_bad a c S k U _ qa qc [⟨t, m, false⟩] W wf hk ((tchk_find _ _ _).trans hE) hW (by simp) hQ rfl hq).mono (fun e w' ⟨e1, hb⟩ => ⟨none, 0, 0, e1, hb, rfl⟩)
  · rw [if_neg hE, if_neg hE]
    exact (qfind_err a c S P U _ _ W hN wf.big hW (tchk_find _ _ _) hE).mono (fun e w' ⟨e1, hb⟩ => ⟨none, 0, 0, e1, hb, rfl⟩)
set_option maxRecDepth 100000 in
theorem flat_ans : FlatAns 110 := fun S h wf a c W hW => by
  obtain ⟨P, U⟩ := h
  dsimp only [hdV]
  have hN : S.length ≤ 9223372036854775807 := by have := wf.small; omega
  by_cases hE : findE S P U = 0
  · obtain ⟨_, k, e, hk, hu, hkn⟩ := held_at hE
    subst e
    rw [Int.toNat_natCast, hE, if_pos rfl]
    exact (flat_ok a c S k U W wf hW hk hE).mono (fun e w' ⟨sa, sc, e1, hb, hi⟩ => ⟨sa, sc, _, e1, hb, rfl⟩)
  · rw [if_neg hE]
    exact (flat_err a c S P U _ W hN wf.big hW rfl hE).mono (fun e w' ⟨e1, hb⟩ => ⟨none, 0, 0, e1, hb, rfl⟩)
end Go.Proofs.YtgjfmepbphfjoaaGreat
