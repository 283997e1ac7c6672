/-
  What the program and the reference answer alike: Insert, Remove, Order (for TreeSays).
-/
import Derived.Test.YtjlapfgghljidaaURyb
import Derived.Test.YtjlapfgghljidaaURyc
import Derived.Test.YtjlapfgghljidaaURv
import Derived.Test.YtjlapfgghljidaaUWc
import Derived.Test.YtjlapfgghljidaaUWr
import Derived.Test.YtjlapfgghljidaaUWo
namespace Go.Proofs.Ytjlapfgghljidaa
open Go.RowKit

abbrev InsAns (f : Nat) (S T : List Nd) (P pu C cu : Int) (ha : Option Addr) (hc : Nat) (hs : List (Int × Int)) (E : Int) : Prop := ∀ (a : Option Addr) (c : Nat) W, NdsAt W a S → HandsAt W ha hs →
  Calls Try.prog f #[.agg #[.slice a S.length c], .agg #[.int .i64 P, .int .i64 pu], .agg #[.int .i64 C, .int .i64 cu], .slice ha hs.length hc] W fun e w' => ∃ a' c', e = .returned (.tuple #[.agg #[.slice a' T.length c'], .int .i64 E]) ∧ Below W.heap.size W w' ∧ NdsAt w' a' T
abbrev RemAns (f : Nat) (S T : List Nd) (p u : Int) (E : Int) : Prop := ∀ (a : Option Addr) (c : Nat) W, NdsAt W a S →
  Calls Try.prog f #[.agg #[.slice a S.length c], .agg #[.int .i64 p, .int .i64 u]] W fun e w' => ∃ a' c', e = .returned (.tuple #[.agg #[.slice a' T.length c'], .int .i64 E]) ∧ Below W.heap.size W w' ∧ NdsAt w' a' T
abbrev OrdAns (f : Nat) (S : List Nd) (L : List Int) (p u : Int) (E : Int) : Prop := ∀ (a : Option Addr) (c : Nat) W, NdsAt W a S →
  Calls Try.prog f #[.agg #[.slice a S.length c], .agg #[.int .i64 p, .int .i64 u]] W fun e w' => ∃ a' c', e = .returned (.tuple #[.slice a' L.length c', .int .i64 E]) ∧ Below W.heap.size W w' ∧ IntsAt w' a' L

theorem nds_no (W : World) : NdsAt W none [] := fun _ hi => absurd hi (Nat.not_lt_zero _)
theorem big_no : Big [] := fun _ hi => absurd hi (Nat.not_lt_zero _)

theorem parent_or {S : List Nd} (wf : WF S) {ch : Nat} (hch : ch < S.length) : (nd S ch).p = -1 ∨ ∃ p0 : Nat, p0 < S.length ∧ p0 ≠ ch ∧ (nd S ch).p = p0 := by
  by_cases e : (nd S ch).p = -1
  · exact Or.inl e
  · obtain ⟨p0, e0, g1, g2, _⟩ := wf.parent_place hch e
    exact Or.inr ⟨p0, g1, g2, e0⟩

theorem order_both (S : List Nd) (p u : Int) (hN : S.length ≤ 9223372036854775807) (hB : Big S) (hC : ∀ a c, RChk a c S) :
    ∃ L E, L.length ≤ 9223372036854775807 ∧ OrdAns 27 S L p u E ∧ OrdAns 30 S L p u E := by
  by_cases hE : tcheckE S [(p, u)] = 0
  · obtain ⟨wf, k, rfl, hk, hku, hkn⟩ := tcheck_one hE
    have hl := order_le wf hk
    have hs := wf.small
    refine ⟨orderS S k, 0, by unfold orderS; omega, fun a c W hW => ?_, fun a c W hW => ?_⟩
    · exact (order_ok a c S k S.length u W hN hB hW hE hk (wf.deep_all hk) (by omega)).mono (fun e w' ⟨sa, cap, e1, hb, hi, _⟩ => ⟨sa, cap, e1, hb, hi⟩)
    · refine (rOrd_ok a c S k u W wf (hC a c) hW hk hE).mono (fun e w' ⟨v, e1, hb, ho⟩ => ?_)
      obtain ⟨pa, pc, rfl, hi, _⟩ := own_slice ho
      exact ⟨pa, pc, e1, hb, hi⟩
  · refine ⟨[], tcheckE S [(p, u)], by simp, fun a c W hW => ?_, fun a c W hW => ?_⟩
    · exact (order_err a c S p u _ W hN hB hW rfl hE).mono (fun e w' ⟨e1, hb⟩ => ⟨none, 0, e1, hb, fun i hi => absurd hi (Nat.not_lt_zero _)⟩)
    · exact (rOrd_err a c S p u _ W hN (hC a c) hW rfl hE).mono (fun e w' ⟨e1, hb⟩ => ⟨none, 0, e1, hb, fun i hi => absurd hi (Nat.not_lt_zero _)⟩)

theorem remove_both (S : List Nd) (p u : Int) (hN : S.length ≤ 9223372036854775807) (hB : Big S) (hC : ∀ a c, RChk a c S) :
    ∃ T E, T.length ≤ 9223372036854775807 ∧ Big T ∧ RemAns 26 S T p u E ∧ RemAns 29 S T p u E := by
  by_cases hE : tcheckE S [(p, u)] = 0
  · obtain ⟨wf, k, rfl, hk, hku, hkn⟩ := tcheck_one hE
    have hK : ∀ i, i < S.length → (nd S i).ks.length ≤ 1000 := fun i hi => by have := wf.kids_small hi; omega
    rcases parent_or wf hk with hp | ⟨p0, hp1, hp2, hp3⟩
    · refine ⟨[], 6, by simp, big_no, fun a c W hW => ?_, fun a c W hW => ?_⟩
      · exact (remove_none a c S k u W hN hB hW hE hk hp).mono (fun e w' ⟨e1, hb⟩ => ⟨none, 0, e1, hb, nds_no _⟩)
      · exact (rRem_none a c S k u W hN (hC a c) hW hE hk hp).mono (fun e w' ⟨e1, hb⟩ => ⟨none, 0, e1, hb, nds_no _⟩)
    · have hG : leaveG S k = leaveS S p0 k := by unfold leaveG; rw [if_neg (by omega), hp3, Int.toNat_natCast]
      have wf2 : WF (leaveS S p0 k) := by rw [← hG]; exact wf.leaveG hk
      refine ⟨leaveS S p0 k, 0, by rw [leaveS_length]; exact hN, wf2.big, fun a c W hW => ?_, fun a c W hW => ?_⟩
      · refine (remove_ok a c S k p0 u W wf.small hB hW hE hk hp1 hp2 hp3 hK).mono (fun e w' ⟨g, e1, hb, _, hn⟩ => ⟨some ⟨g, 0, none⟩, S.length, ?_, hb, hn w' (fun _ _ => rfl)⟩)
        rw [e1, leaveS_length]
      · refine (rRem_ok a c S k p0 u W wf.small (hC a c) hW hK hE hk hp1 hp2 hp3).mono (fun e w' ⟨a', c', e1, hb, hn⟩ => ⟨a', c', ?_, hb, hn⟩)
        rw [e1, leaveS_length]
  · refine ⟨[], tcheckE S [(p, u)], by simp, big_no, fun a c W hW => ?_, fun a c W hW => ?_⟩
    · exact (remove_err a c S p u _ W hN hB hW rfl hE).mono (fun e w' ⟨e1, hb⟩ => ⟨none, 0, e1, hb, nds_no _⟩)
    · exact (rRem_err a c S p u _ W hN (hC a c) hW rfl hE).mono (fun e w' ⟨e1, hb⟩ => ⟨none, 0, e1, hb, nds_no _⟩)

theorem insert_both (S : List Nd) (P pu C cu : Int) (ha : Option Addr) (hc : Nat) (hs : List (Int × Int)) (hN : S.length ≤ 9223372036854775807) (hB : Big S) (hC : ∀ a c, RChk a c S) :
    ∃ T E, T.length ≤ 9223372036854775807 ∧ Big T ∧ InsAns 25 S T P pu C cu ha hc hs E ∧ InsAns 28 S T P pu C cu ha hc hs E := by
  by_cases hm : 1 < hs.length
  · refine ⟨[], 3, by simp, big_no, fun a c W hW hH => ?_, fun a c W hW hH => ?_⟩
    · exact (insert_many a c S.length P C pu cu ha hc hs.length W hm).mono (fun e w' ⟨e1, hb⟩ => ⟨none, 0, e1, hb, nds_no _⟩)
    · exact (rIns_many a c S.length P C pu cu ha hc hs.length W hm).mono (fun e w' ⟨e1, hb⟩ => ⟨none, 0, e1, hb, nds_no _⟩)
  by_cases hE : tcheckE S ((P, pu) :: (C, cu) :: hs) = 0
  · obtain ⟨wf, hx⟩ := tcheck_wf hE
    obtain ⟨pa, e1, hpa, hpu, hpn⟩ := hx (P, pu) (by simp)
    obtain ⟨ch, e2, hch, hcu, hcn⟩ := hx (C, cu) (by simp)
    dsimp only at e1 e2 hpn hcn
    subst e1
    subst e2
    have hK : ∀ i, i < S.length → (nd S i).ks.length ≤ 1000 := fun i hi => by have := wf.kids_small hi; omega
    have hQ : ∀ h ∈ hs, ∃ q : Nat, h.1 = q ∧ q < S.length := fun h hh => by
      obtain ⟨q, e, hq, _⟩ := hx h (by simp [hh])
      exact ⟨q, e, hq⟩
    by_cases hf : fitsB S ch pa = true
    · have pt : Puts S pa ch := ⟨wf, hpa, hch, hpu, hcu, hf⟩
      obtain ⟨f1, f2, f3⟩ := fits_parts hf
      have hl := leaveG_length S ch
      have wfl := wf.leaveG hch
      have hp0 := parent_or wf hch
      have hkl : (nd (leaveG S ch) pa).ks.length ≤ 24 := wfl.kids_small (by rw [hl]; exact hpa)
      match hs, hm, hE, hQ with
      | [], _, hE, hQ =>
        obtain ⟨at', hat⟩ : ∃ at', at' = (nd (leaveG S ch) pa).ks.length := ⟨_, rfl⟩
        have hno : (-1 : Int) ∉ (nd (leaveG S ch) pa).ks := fun h => by
          obtain ⟨k, e, _⟩ := wfl.kid (by rw [hl]; exact hpa) h
          omega
        refine ⟨enterS (leaveG S ch) pa ch at', 0, by rw [enterS_length, hl]; exact hN, (pt.insert at').big, fun a c W hW hH => ?_, fun a c W hW hH => ?_⟩
        · refine (insert0_ok a c S pa ch pu cu ha hc at' W wf.small hB hW hE hch hpa f2 hf hp0 (by rw [hat]; rfl) (by omega) hK).mono (fun e w' ⟨g, he, hb, _, hn⟩ => ⟨some ⟨g, 0, none⟩, S.length, ?_, hb, hn w' (fun _ _ => rfl)⟩)
          rw [he, enterS_length, hl]
        · refine (rIns_ok a c S pa ch pu cu ha hc [] W wf.small (hC a c) hW hH (by simp) hE hpa hch hf hQ hK (fun h hh => by cases hh) (show (-1 : Int) ≠ ch by omega) (by show (-1 : Int) ≤ -1; omega) f2 hp0 at' ?_ (by omega)).mono (fun e w' ⟨a', c', he, hb, hn⟩ => ⟨a', c', ?_, hb, hn⟩)
          · show insL (-1) ch _ ++ _ = _
            rw [insL_none hno, hat, ins_end]
            rfl
          · rw [he, enterS_length, hl]
      | [(Q, qu)], _, hE, hQ =>
        obtain ⟨q, e3, hq⟩ := hQ (Q, qu) (by simp)
        dsimp only at e3
        subst e3
        obtain ⟨q', e4, _, hqu, hqn⟩ := hx ((q : Int), qu) (by simp)
        have : q' = q := by dsimp only at e4; omega
        subst this
        by_cases hqp : (nd S q').p = pa
        · have hqpA : ∀ h ∈ [((q' : Int), qu)], (nd S h.1.toNat).p = pa := fun h hh => by
            have : h = ((q' : Int), qu) := by simpa using hh
            subst this
            rw [Int.toNat_natCast]
            exact hqp
          by_cases hqc : q' = ch
          · subst hqc
            have hcq : cu = qu := by dsimp only at hqn; omega
            subst hcq
            refine ⟨S, 0, hN, hB, fun a c W hW hH => ?_, fun a c W hW hH => ?_⟩
            · obtain ⟨hb0, ho0, rfl, _⟩ := hH 0 (by simp)
              exact (insert1_self a c S pa q' pu cu hb0 ho0 hc q' cu W wf.small hB hW hH hE hq hq hf hqp rfl hK).mono (fun e w' ⟨g, he, hb, _, hn⟩ => ⟨some ⟨g, 0, none⟩, S.length, he, hb, hn w' (fun _ _ => rfl)⟩)
            · exact rIns_self a c S pa q' pu cu ha hc [((q' : Int), cu)] W wf.small (hC a c) hW hH (by simp) hE hpa hch hf hQ hK hqpA rfl
          · obtain ⟨at', hat, hatL, hatq⟩ := pt.ahead hq hqp hqc
            refine ⟨enterS (leaveG S ch) pa ch at', 0, by rw [enterS_length, hl]; exact hN, (pt.insert at').big, fun a c W hW hH => ?_, fun a c W hW hH => ?_⟩
            · obtain ⟨hb0, ho0, rfl, _⟩ := hH 0 (by simp)
              refine (insert1_ok a c S pa ch pu cu hb0 ho0 hc q' qu at' W wf.small hB hW hH hE hch hpa hq f2 hf hp0 hqp (fun e => hqc (by have := congrArg Prod.fst e; simp at this; omega)) hat (by omega) hK).mono (fun e w' ⟨g, he, hb, _, hn⟩ => ⟨some ⟨g, 0, none⟩, S.length, ?_, hb, hn w' (fun _ _ => rfl)⟩)
              rw [he, enterS_length, hl]
            · refine (rIns_ok a c S pa ch pu cu ha hc [((q' : Int), qu)] W wf.small (hC a c) hW hH (by simp) hE hpa hch hf hQ hK hqpA (show (q' : Int) ≠ ch by omega) (by show (-1 : Int) ≤ (q' : Int); omega) f2 hp0 at' ?_ (by omega)).mono (fun e w' ⟨a', c', he, hb, hn⟩ => ⟨a', c', ?_, hb, hn⟩)
              · show insL (q' : Int) ch _ ++ (if (q' : Int) = -1 then [(ch : Int)] else []) = _
                rw [if_neg (by omega), List.append_nil]
                exact insL_at (wfl.kids_nodup (by rw [hl]; exact hpa)) hatL hatq
              · rw [he, enterS_length, hl]
        · refine ⟨[], 6, by simp, big_no, fun a c W hW hH => ?_, fun a c W hW hH => ?_⟩
          · obtain ⟨hb0, ho0, rfl, _⟩ := hH 0 (by simp)
            exact (insert1_away a c S pa ch pu cu hb0 ho0 hc q' qu W wf.small hB hW hH hE hch hq hf hqp).mono (fun e w' ⟨e1, hb⟩ => ⟨none, 0, e1, hb, nds_no _⟩)
          · exact (rIns_away a c S pa ch pu cu ha hc [((q' : Int), qu)] W wf.small (hC a c) hW hH (by simp) hE hpa hch hf hQ rfl (fun h hh => by
              have : h = ((q' : Int), qu) := by simpa using hh
              subst this
              rw [Int.toNat_natCast]
              exact hqp)).mono (fun e w' ⟨e1, hb⟩ => ⟨none, 0, e1, hb, nds_no _⟩)
      | _ :: _ :: _, h, _, _ => exact absurd (by simp) h
    · have hf2 : fitsB S ch pa = false := by simpa using hf
      refine ⟨[], 6, by simp, big_no, fun a c W hW hH => ?_, fun a c W hW hH => ?_⟩
      · match hs, hm, hE, hQ, hH with
        | [], _, hE, _, _ => exact (insert0_bad a c S pa ch pu cu ha hc W wf.small hB hW hE hch hf2).mono (fun e w' ⟨e1, hb⟩ => ⟨none, 0, e1, hb, nds_no _⟩)
        | [(Q, qu)], _, hE, hQ, hH =>
          obtain ⟨q, e3, hq⟩ := hQ (Q, qu) (by simp)
          dsimp only at e3
          subst e3
          obtain ⟨hb0, ho0, rfl, _⟩ := hH 0 (by simp)
          exact (insert1_bad a c S pa ch pu cu hb0 ho0 hc q qu W wf.small hB hW hH hE hch hf2).mono (fun e w' ⟨e1, hb⟩ => ⟨none, 0, e1, hb, nds_no _⟩)
        | _ :: _ :: _, h, _, _, _ => exact absurd (by simp) h
      · exact (rIns_bad a c S pa ch pu cu ha hc hs W wf.small (hC a c) hW hH (by omega) hE hpa hch hf2).mono (fun e w' ⟨e1, hb⟩ => ⟨none, 0, e1, hb, nds_no _⟩)
  · refine ⟨[], tcheckE S ((P, pu) :: (C, cu) :: hs), by simp, big_no, fun a c W hW hH => ?_, fun a c W hW hH => ?_⟩
    · match hs, hm, hE, hH with
      | [], _, hE, _ => exact (insert0_err a c S P C pu cu ha hc _ W hN hB hW rfl hE).mono (fun e w' ⟨e1, hb⟩ => ⟨none, 0, e1, hb, nds_no _⟩)
      | [(Q, qu)], _, hE, hH =>
        obtain ⟨hb0, ho0, rfl, _⟩ := hH 0 (by simp)
        exact (insert1_err a c S P C pu cu hb0 ho0 hc Q qu _ W hN hB hW hH rfl hE).mono (fun e w' ⟨e1, hb⟩ => ⟨none, 0, e1, hb, nds_no _⟩)
      | _ :: _ :: _, h, _, _ => exact absurd (by simp) h
    · exact (rIns_err a c S P C pu cu ha hc hs _ W hN (hC a c) hW hH (by omega) rfl hE).mono (fun e w' ⟨e1, hb⟩ => ⟨none, 0, e1, hb, nds_no _⟩)
end Go.Proofs.Ytjlapfgghljidaa
