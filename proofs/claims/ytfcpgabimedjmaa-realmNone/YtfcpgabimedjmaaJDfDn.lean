/-
  What the calls on stores answer, as functions of the store (for realms); the program's.
-/
import Derived.Test.YtfcpgabimedjmaaJDbDcDe
import Derived.Test.YtfcpgabimedjmaaJWn
import Derived.Test.YtfcpgabimedjmaaJSnWd
import Derived.Test.YtfcpgabimedjmaaJWrXb
import Derived.Test.YtfcpgabimedjmaaJXcZg
import Derived.Test.YtfcpgabimedjmaaJZh
namespace Go.Proofs.Ytfcpgabimedjmaa
open Go.RowKit
set_option linter.unusedVariables false

def rS (E : Int) (T : List Nd) : List Nd := if E = 0 then T else []
def rH (E : Int) (h : Int × Int) : Int × Int := if E = 0 then h else (0, 0)
theorem rS_ok {T : List Nd} : rS 0 T = T := rfl
theorem rS_no {E : Int} {T : List Nd} (h : E ≠ 0) : rS E T = [] := if_neg h
theorem rH_no {E : Int} {T : Int × Int} (h : E ≠ 0) : rH E T = (0, 0) := if_neg h
theorem nds_nilD (W : World) : NdsAt W none [] := fun _ hi => absurd hi (Nat.not_lt_zero _)

/-- What a call that answers a store, a hand and an error answers. -/
abbrev StoHandD (f : Nat) (S T : List Nd) (more : Array Value) (h : Int × Int) (E : Int) : Prop := ∀ (a : Option Addr) (c : Nat) W, NdsAt W a S →
  Calls Try.prog f (#[.agg #[.slice a S.length c]] ++ more) W fun e w' => ∃ a' c', e = .returned (.tuple #[.agg #[.slice a' T.length c'], .agg #[.int .i64 h.1, .int .i64 h.2], .int .i64 E]) ∧ Below W.heap.size W w' ∧ NdsAt w' a' T
abbrev StoErrD (f : Nat) (S T : List Nd) (more : Array Value) (E : Int) : Prop := ∀ (a : Option Addr) (c : Nat) W, NdsAt W a S →
  Calls Try.prog f (#[.agg #[.slice a S.length c]] ++ more) W fun e w' => ∃ a' c', e = .returned (.tuple #[.agg #[.slice a' T.length c'], .int .i64 E]) ∧ Below W.heap.size W w' ∧ NdsAt w' a' T
abbrev hdV (h : Int × Int) : Value := .agg #[.int .i64 h.1, .int .i64 h.2]
def MakeAns (f : Nat) : Prop := ∀ (S : List Nd) (t : Int), WF S → StoHandD f S (rS (makeE S t) (mkS S t)) #[.int .i64 t] (rH (makeE S t) (mkH S)) (makeE S t)
def FreeAns (f : Nat) : Prop := ∀ (S : List Nd) (h : Int × Int), WF S → StoErrD f S (rS (freeE S h.1 h.2) (S.set h.1.toNat (freedNd (nd S h.1.toNat)))) #[hdV h] (freeE S h.1 h.2)
def RemoveAns (f : Nat) : Prop := ∀ (S : List Nd) (h : Int × Int), WF S → StoErrD f S (rS (remE S h.1 h.2) (leaveG S h.1.toNat)) #[hdV h] (remE S h.1 h.2)
def InsertAns (f : Nat) : Prop := ∀ (S : List Nd) (h g : Int × Int) (hs : List (Int × Int)) (ha : Option Addr) (hc : Nat), WF S → hs.length ≤ 1 → ∀ (a : Option Addr) (c : Nat) W, NdsAt W a S → HandsAt W ha hs →
  Calls Try.prog f #[.agg #[.slice a S.length c], hdV h, hdV g, .slice ha hs.length hc] W fun e w' => ∃ a' c', e = .returned (.tuple #[.agg #[.slice a' (rS (insE S h.1 h.2 g.1 g.2 hs) (insS S h.1 g.1 hs)).length c'], .int .i64 (insE S h.1 h.2 g.1 g.2 hs)]) ∧ Below W.heap.size W w' ∧ NdsAt w' a' (rS (insE S h.1 h.2 g.1 g.2 hs) (insS S h.1 g.1 hs))
def HostAns (f : Nat) : Prop := ∀ (S : List Nd) (h : Int × Int) (b : Bool), WF S → StoHandD f S (rS (hosE S h.1 h.2) (hosS S h.1 b)) #[hdV h, .bool b] (rH (hosE S h.1 h.2) (mkH S)) (hosE S h.1 h.2)
def CountAns (f : Nat) : Prop := ∀ (S : List Nd) (h : Int × Int) (t m : Int) (qa : Option Addr) (qc : Nat), WF S → ∀ (a : Option Addr) (c : Nat) W, NdsAt W a S → TestsAt W qa [⟨t, m, false⟩] →
  Calls Try.prog f #[.agg #[.slice a S.length c], hdV h, .slice qa 1 qc] W fun e w' => ∃ a' c' n, e = .returned (.tuple #[.slice a' n c', .int .i64 (cntE S h.1 h.2 [⟨t, m, false⟩])]) ∧ Below W.heap.size W w' ∧ n = if cntE S h.1 h.2 [⟨t, m, false⟩] = 0 then (foundF S h.1.toNat [⟨t, m, false⟩]).length else 0
def FlatAns (f : Nat) : Prop := ∀ (S : List Nd) (h : Int × Int), WF S → ∀ (a : Option Addr) (c : Nat) W, NdsAt W a S →
  Calls Try.prog f #[.agg #[.slice a S.length c], hdV h] W fun e w' => ∃ a' c' n, e = .returned (.tuple #[.slice a' n c', .int .i64 (findE S h.1 h.2)]) ∧ Below W.heap.size W w' ∧ n = if findE S h.1 h.2 = 0 then (flatF S h.1.toNat).length else 0

theorem tchk_find (S : List Nd) (p u : Int) : tcheckE S [(p, u)] = findE S p u := by
  unfold tcheckE findE handsE handsE
  by_cases h : holdsE S p u = 0
  · simp [h]
  · simp [h]
theorem par_or {S : List Nd} (wf : WF S) {ch : Nat} (hch : ch < S.length) : (nd S ch).p = -1 ∨ ∃ p0 : Nat, p0 < S.length ∧ p0 ≠ ch ∧ (nd S ch).p = p0 := by
  by_cases e : (nd S ch).p = -1
  · exact Or.inl e
  · obtain ⟨p0, e0, g1, g2, _⟩ := wf.parent_place hch e
    exact Or.inr ⟨p0, g1, g2, e0⟩
theorem kids_1000 {S : List Nd} (wf : WF S) : ∀ i, i < S.length → (nd S i).ks.length ≤ 1000 := fun i hi => by have := wf.kids_small hi; omega

set_option maxRecDepth 100000 in
theorem make_ans : MakeAns 50 := fun S t wf a c W hW => by
  have hN : S.length ≤ 9223372036854775807 := by have := wf.small; omega
  by_cases hE : makeE S t = 0
  · obtain ⟨_, ht, hf, hfr, hall⟩ := make_at hE
    rw [hE, rS_ok]
    refine (make_ok a c S t W wf.small (kids_1000 wf) hW ((wf_iff S).2 wf) ht.1 ht.2 (ffree S) hf hfr (wf.uses hf).1 hall).mono (fun e w' ⟨g, e1, hb, _, hn⟩ => ⟨some ⟨g, 0, none⟩, S.length, ?_, hb, hn w' (fun _ _ => rfl)⟩)
    rw [e1]
    unfold mkS
    rw [List.length_set]
    rfl
  · rw [rS_no hE, rH_no hE]
    exact (make_err a c S t _ W hN wf.big hW rfl hE).mono (fun e w' ⟨e1, hb⟩ => ⟨none, 0, e1, hb, nds_nilD _⟩)
set_option maxRecDepth 100000 in
theorem free_ans : FreeAns 26 := fun S h wf a c W hW => by
  obtain ⟨P, U⟩ := h
  dsimp only [hdV]
  have hN : S.length ≤ 9223372036854775807 := by have := wf.small; omega
  unfold freeE
  by_cases hE : findE S P U = 0
  · rw [if_pos hE]
    obtain ⟨_, k, e, hk, hu, hkn⟩ := held_at hE
    subst e
    rw [Int.toNat_natCast]
    by_cases hl : looseB S k
    · rw [if_pos hl, rS_ok]
      refine (free_ok a c S k U W wf.small (kids_1000 wf) hW hk hE hl).mono (fun e w' ⟨g, e1, hb, _, hn⟩ => ⟨some ⟨g, 0, none⟩, S.length, ?_, hb, hn w' (fun _ _ => rfl)⟩)
      rw [e1, List.length_set]
    · rw [if_neg hl, rS_no (by decide)]
      exact (free_tree a c S k U W hN wf.big hW hk hE (by have := kids_1000 wf k hk; omega) hl).mono (fun e w' ⟨e1, hb⟩ => ⟨none, 0, e1, hb, nds_nilD _⟩)
  · rw [if_neg hE, rS_no hE]
    exact (free_err a c S P U _ W hN wf.big hW rfl hE).mono (fun e w' ⟨e1, hb⟩ => ⟨none, 0, e1, hb, nds_nilD _⟩)
set_option maxRecDepth 100000 in
theorem remove_ans : RemoveAns 27 := fun S h wf a c W hW => by
  obtain ⟨P, U⟩ := h
  dsimp only [hdV]
  have hN : S.length ≤ 9223372036854775807 := by have := wf.small; omega
  unfold remE
  by_cases hE : findE S P U = 0
  · rw [if_pos hE]
    obtain ⟨_, k, e, hk, hu, hkn⟩ := held_at hE
    subst e
    rw [Int.toNat_natCast]
    have hT : tcheckE S [((k : Int), U)] = 0 := (tchk_find _ _ _).trans hE
    rcases par_or wf hk with hp | ⟨p0, hp1, hp2, hp3⟩
    · rw [if_pos hp, rS_no (by decide)]
      exact (remove_none a c S k U W hN wf.big hW hT hk hp).mono (fun e w' ⟨e1, hb⟩ => ⟨none, 0, e1, hb, nds_nilD _⟩)
    · have hG : leaveG S k = leaveS S p0 k := by unfold leaveG; rw [if_neg (by omega), hp3, Int.toNat_natCast]
      rw [if_neg (by omega), rS_ok, hG]
      refine (remove_ok a c S k p0 U W wf.small wf.big hW hT hk hp1 hp2 hp3 (kids_1000 wf)).mono (fun e w' ⟨g, e1, hb, _, hn⟩ => ⟨some ⟨g, 0, none⟩, S.length, ?_, hb, hn w' (fun _ _ => rfl)⟩)
      rw [e1, leaveS_length]
  · rw [if_neg hE, rS_no hE]
    exact (remove_err a c S P U _ W hN wf.big hW (tchk_find _ _ _) hE).mono (fun e w' ⟨e1, hb⟩ => ⟨none, 0, e1, hb, nds_nilD _⟩)
set_option maxRecDepth 100000 in
theorem host_ans : HostAns 62 := fun S h cl wf a c W hW => by
  obtain ⟨P, U⟩ := h
  dsimp only [hdV]
  have hN : S.length ≤ 9223372036854775807 := by have := wf.small; omega
  unfold hosE
  by_cases hE : findE S P U = 0
  · rw [if_pos hE]
    obtain ⟨_, k, e, hk, hu, hkn⟩ := held_at hE
    subst e
    by_cases hH : hostB S (k : Int) = true
    · rw [if_pos hH, rS_no (by decide), rH_no (by decide)]
      exact (attach_err2 a c S k U cl W wf hW hk hE hH).mono (fun e w' ⟨e1, hb⟩ => ⟨none, 0, e1, hb, nds_nilD _⟩)
    · rw [if_neg hH]
      have hH2 : hostB S (k : Int) = false := by simpa using hH
      by_cases hM : makeE S 0 = 0
      · obtain ⟨_, ht, hf, hfr, hall⟩ := make_at hM
        rw [hM, rS_ok]
        unfold hosS
        rw [Int.toNat_natCast]
        refine (attach_ok a c S k (ffree S) U cl W wf hW hk hE hH2 hf hfr hall).mono (fun e w' ⟨g, e1, hb, _, ho⟩ => ⟨some ⟨g, 0, none⟩, S.length, ?_, hb, ho.nds⟩)
        rw [e1, List.length_set]
        rfl
      · rw [rS_no hM, rH_no hM]
        exact (attach_err3 a c S k U _ cl W wf hW hk hE hH2 rfl hM).mono (fun e w' ⟨e1, hb⟩ => ⟨none, 0, e1, hb, nds_nilD _⟩)
  · rw [if_neg hE, rS_no hE, rH_no hE]
    exact (attach_err1 a c S P U _ cl W hN wf.big hW rfl hE).mono (fun e w' ⟨e1, hb⟩ => ⟨none, 0, e1, hb, nds_nilD _⟩)
set_option maxRecDepth 100000 in
theorem way_case {S : List Nd} {P pu C cu : Int} {hs : List (Int × Int)} (wf : WF S) (hm : hs.length ≤ 1) : InsWay S (rS (insE S P pu C cu hs) (insS S P C hs)) P C cu hs (tcheckE S ((P, pu) :: (C, cu) :: hs)) (insE S P pu C cu hs) := by
  by_cases hE : tcheckE S ((P, pu) :: (C, cu) :: hs) = 0
  · obtain ⟨_, hx⟩ := tchk_wf hE
    obtain ⟨pa, e1, hpa, hpu, hpn⟩ := hx (P, pu) (by simp)
    obtain ⟨ch, e2, hch, hcu, hcn⟩ := hx (C, cu) (by simp)
    dsimp only at e1 e2 hpn hcn
    subst e1
    subst e2
    have hK := kids_1000 wf
    refine .inr ⟨pa, ch, rfl, rfl, hE, wf.small, hpa, hch, fun hf => ?_, fun hf => ⟨fun h hh => ?_, ?_⟩⟩
    · have e : insE S pa pu ch cu hs = 6 := by unfold insE; rw [if_pos hE, Int.toNat_natCast, Int.toNat_natCast, if_neg (by rw [hf]; decide)]
      rw [e]
      exact ⟨rfl, rS_no (by decide)⟩
    · obtain ⟨q, e, hq, _⟩ := hx h (by simp [hh])
      exact ⟨q, e, hq⟩
    · have pt : Puts S pa ch := ⟨wf, hpa, hch, hpu, hcu, hf⟩
      obtain ⟨f1, f2, f3⟩ := fits_parts hf
      have hl := leaveG_length S ch
      have hp0 := par_or wf hch
      unfold insE insS
      rw [if_pos hE]
      simp only [Int.toNat_natCast]
      rw [if_pos hf]
      match hs, hm, hE, hx with
      | [], _, hE, hx =>
        exact ⟨fun ⟨h, hh, _⟩ => (by cases hh), fun _ => ⟨rfl, hK, by rw [rS_ok, enterS_length, hl], .inr ⟨by simp, f2, hp0, (nd (leaveG S ch) pa).ks.length, rfl, by omega, rS_ok⟩⟩⟩
      | [(Q, qu)], _, hE, hx =>
        obtain ⟨q, e3, hq, hqu, hqn⟩ := hx (Q, qu) (by simp)
        dsimp only at e3 hqn
        subst e3
        dsimp only
        rw [Int.toNat_natCast]
        have hone : ∀ h ∈ [((q : Int), qu)], (nd S h.1.toNat).p = (nd S q).p := fun h hh => by
          have : h = ((q : Int), qu) := by simpa using hh
          subst this
          rw [Int.toNat_natCast]
        by_cases hqp : (nd S q).p = pa
        · rw [if_pos hqp, rS_ok]
          refine ⟨fun ⟨h, hh, hne⟩ => absurd ((hone h hh).trans hqp) hne, fun _ => ?_⟩
          by_cases hqc : q = ch
          · subst hqc
            have hcq : cu = qu := by omega
            subst hcq
            rw [if_pos rfl]
            exact ⟨rfl, hK, rfl, .inl ⟨List.mem_singleton.2 rfl, rfl⟩⟩
          · rw [if_neg (by omega)]
            obtain ⟨at', hat, hatL, hatq⟩ := pt.ahead hq hqp hqc
            rw [hat, Int.toNat_natCast]
            exact ⟨rfl, hK, by rw [enterS_length, hl], .inr ⟨fun e => hqc (by have := congrArg Prod.fst (List.mem_singleton.1 e); simp at this; omega), f2, hp0, at', hat, by omega, rfl⟩⟩
        · rw [if_neg hqp]
          exact ⟨fun _ => ⟨rfl, rS_no (by decide)⟩, fun h => absurd ((hone _ (List.mem_singleton.2 rfl)).symm.trans (h _ (List.mem_singleton.2 rfl))) hqp⟩
      | _ :: _ :: _, h, _, _ => exact absurd h (by simp)
  · have e : insE S P pu C cu hs = tcheckE S ((P, pu) :: (C, cu) :: hs) := by unfold insE; rw [if_neg hE]
    exact .inl ⟨hE, e, by rw [e, rS_no hE]⟩
theorem insert_ans : InsertAns 61 := fun S h g hs ha hc wf hm a c W hW hH =>
  insert_all a c S h.1 g.1 h.2 g.2 ha hc hs _ _ _ W (by have := wf.small; omega) wf.big hW hH hm rfl (way_case wf hm)
set_option maxRecDepth 100000 in
theorem count_ans : CountAns 58 := fun S h t m qa qc wf a c W hW hQ => by
  obtain ⟨P, U⟩ := h
  dsimp only [hdV]
  have hN : S.length ≤ 9223372036854775807 := by have := wf.small; omega
  unfold cntE
  by_cases hE : findE S P U = 0
  · rw [if_pos hE]
    obtain ⟨_, k, e, hk, hu, hkn⟩ := held_at hE
    subst e
    rw [Int.toNat_natCast]
    by_cases hq : qcheckE [⟨t, m, false⟩] = 0
    · rw [hq, if_pos rfl]
      exact (qfind_ok a c S k U qa qc [⟨t, m, false⟩] W wf hk hu ((tchk_find _ _ _).trans hE) hW hQ hq).mono (fun e w' ⟨fa, fc, e1, hb, hi, _⟩ => ⟨fa, fc, _, e1, hb, rfl⟩)
    · rw [if_neg hq]
      exact (qfind_bad a c S k U _ qa qc [⟨t, m, false⟩] W wf hk ((tchk_find _ _ _).trans hE) hW (by simp) hQ rfl hq).mono (fun e w' ⟨e1, hb⟩ => ⟨none, 0, 0, e1, hb, rfl⟩)
  · rw [if_neg hE, if_neg hE]
    exact (qfind_err a c S P U _ _ W hN wf.big hW (tchk_find _ _ _) hE).mono (fun e w' ⟨e1, hb⟩ => ⟨none, 0, 0, e1, hb, rfl⟩)
set_option maxRecDepth 100000 in
theorem flat_ans : FlatAns 59 := fun S h wf a c W hW => by
  obtain ⟨P, U⟩ := h
  dsimp only [hdV]
  have hN : S.length ≤ 9223372036854775807 := by have := wf.small; omega
  by_cases hE : findE S P U = 0
  · obtain ⟨_, k, e, hk, hu, hkn⟩ := held_at hE
    subst e
    rw [Int.toNat_natCast, hE, if_pos rfl]
    exact (flat_ok a c S k U W wf hW hk hE).mono (fun e w' ⟨sa, sc, e1, hb, hi⟩ => ⟨sa, sc, _, e1, hb, rfl⟩)
  · rw [if_neg hE]
    exact (flat_err a c S P U _ W hN wf.big hW rfl hE).mono (fun e w' ⟨e1, hb⟩ => ⟨none, 0, 0, e1, hb, rfl⟩)
end Go.Proofs.Ytfcpgabimedjmaa

namespace Go.Proofs.Ytfcpgabimedjmaa
open Go.RowKit
set_option linter.unusedVariables false

def zeroAc : Ac := ⟨0, 0, 0, 0, 0⟩
def ac (X : List Ac) (i : Nat) : Ac := X.getD i zeroAc
def ActsAt (w : World) (a : Option Addr) (X : List Ac) : Prop :=
  ∀ i, i < X.length → ∃ b o, a = some ⟨b, o, none⟩ ∧ w.cell? ⟨b, o + i * 5, none⟩ = some (.int .i64 (ac X i).k) ∧ w.cell? ⟨b, o + i * 5 + 1, none⟩ = some (.int .i64 (ac X i).a) ∧ w.cell? ⟨b, o + i * 5 + 2, none⟩ = some (.int .i64 (ac X i).b) ∧ w.cell? ⟨b, o + i * 5 + 3, none⟩ = some (.int .i64 (ac X i).c) ∧ w.cell? ⟨b, o + i * 5 + 4, none⟩ = some (.int .i64 (ac X i).n)
theorem ActsAt.below {w w' : World} {a : Option Addr} {X : List Ac} (h : ActsAt w a X) (hb : Below w.heap.size w w') : ActsAt w' a X := fun i hi => by
  obtain ⟨b, o, e, c0, c1, c2, c3, c4⟩ := h i hi
  exact ⟨b, o, e, keepC c0 hb, keepC c1 hb, keepC c2 hb, keepC c3 hb, keepC c4 hb⟩

/-- What Find answers. -/
def FindAns (f : Nat) : Prop := ∀ (S : List Nd) (p u : Int) (a : Option Addr) (c : Nat) (W : World), WF S → NdsAt W a S →
  Calls Try.prog f #[.agg #[.slice a S.length c], .agg #[.int .i64 p, .int .i64 u]] W fun e w' => ∃ (x : Nd) (ka : Option Addr) (kl kc : Nat), e = .returned (.tuple #[.agg #[.bool x.u, .int .i64 x.n, .int .i64 x.t, .int .i64 x.m, .int .i64 x.p, .slice ka kl kc, .int .i64 x.h, .bool x.c], .int .i64 (findE S p u)]) ∧ Below W.heap.size W w' ∧ (findE S p u = 0 → x = nd S p.toNat) ∧ (findE S p u ≠ 0 → x = zeroNd)
set_option maxRecDepth 100000 in
theorem find_ans : FindAns 8 := fun S p u a c W wf hW => by
  have hN : S.length ≤ 9223372036854775807 := by have := wf.small; omega
  by_cases hE : findE S p u = 0
  · obtain ⟨_, k, e, hk, hu, hkn⟩ := held_at hE
    subst e
    rw [Int.toNat_natCast, hE]
    exact (find_ok a c S k u W hN wf.big hW hk hE (by have := kids_1000 wf k hk; omega)).mono (fun e w' ⟨g, e1, hb, hi⟩ => ⟨nd S k, _, _, _, e1, hb, fun _ => rfl, fun h => absurd rfl h⟩)
  · exact (find_err a c S p u _ W hN wf.big hW rfl hE).mono (fun e w' ⟨e1, hb⟩ => ⟨zeroNd, _, _, _, e1, hb, fun h => absurd h hE, fun _ => rfl⟩)

theorem tmod_bdD (k : Int) (n : Nat) (hn : 0 < n) : -(n : Int) < k.tmod n ∧ k.tmod n < n := by
  have h1 := Int.tmod_lt_of_pos k (b := (n : Int)) (by omega)
  have h2 := Int.tmod_lt_of_pos (-k) (b := (n : Int)) (by omega)
  rw [Int.neg_tmod] at h2
  omega
set_option maxHeartbeats 400000 in
theorem at_inD (k : Int) (n : Nat) (hn : 0 < n) (hn' : n ≤ 1000) : ∃ p : Nat, p < n ∧ ∀ w : World,
    Calls Try.prog 6 #[.int .i64 k, .int .i64 n] w fun e w' => e = .returned (.int .i64 (p : Int)) ∧ w' = w := by
  obtain ⟨hb1, hb2⟩ := tmod_bdD k n hn
  generalize hr : k.tmod (n : Int) = r at hb1 hb2
  by_cases h : r < 0
  · obtain ⟨p, hp⟩ : ∃ p : Nat, (p : Int) = r + n := ⟨(r + n).toNat, by omega⟩
    refine ⟨p, by omega, fun w => ?_⟩
    have HP : Hid ((p : Int) = r + n) := hp
    clear hp
    go_enter Try.func6, Try.ntmps6
    go_wp2
    go_ret
    exact ⟨by rw [HP.out]; rfl, rfl⟩
  · obtain ⟨p, hp⟩ : ∃ p : Nat, (p : Int) = r := ⟨r.toNat, by omega⟩
    refine ⟨p, by omega, fun w => ?_⟩
    have HP : Hid ((p : Int) = r) := hp
    clear hp
    go_enter Try.func6, Try.ntmps6
    go_wp2
    go_ret
    exact ⟨by rw [HP.out]; rfl, rfl⟩
theorem box2_facts {W : World} {b t : Nat} {v0 v1 : Value} (h : W.heap[b]? = some (.cells #[v0, v1] t (0, 0))) : W.cell? ⟨b, 0, none⟩ = some v0 ∧ W.cell? ⟨b, 1, none⟩ = some v1 ∧ b < W.heap.size :=
  ⟨by simp [World.cell?, h], by simp [World.cell?, h], box_lt h⟩
theorem box2_new (W : World) (t : Nat) (v0 v1 : Value) : (W.alloc (.cells #[v0, v1] t)).heap[W.heap.size]? = some (.cells #[v0, v1] t (0, 0)) := heap_alloc_new W _
end Go.Proofs.Ytfcpgabimedjmaa
