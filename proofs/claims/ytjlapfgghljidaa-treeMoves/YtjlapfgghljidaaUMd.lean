/-
  TreeMoves where nothing is put; TreeMoves at whatever arguments.
-/
import Derived.Test.YtjlapfgghljidaaUWo
import Derived.Test.YtjlapfgghljidaaUWc
import Derived.Test.YtjlapfgghljidaaUMc
namespace Go.Proofs.Ytjlapfgghljidaa
open Go.ChangeShapes Go.WideShapes Go.ChangeAt Go.RowKit

theorem leaveG_none {T : List Nd} {ch : Nat} (h : (nd T ch).p = -1) : leaveG T ch = T := by
  unfold leaveG
  rw [if_pos h]
theorem leaveG_some {T : List Nd} {ch p : Nat} (h : (nd T ch).p = (p : Int)) : leaveG T ch = leaveS T p ch := by
  unfold leaveG
  rw [if_neg (by omega), h, Int.toNat_natCast]

theorem Puts.moved {S : List Nd} {pa ch : Nat} (h : Puts S pa ch) (at' : Nat) : Moved S (enterS (leaveG S ch) pa ch at') pa ch := by
  have wf := h.1
  have hpa := h.2
  have hch := h.3
  have hcu := h.5
  obtain ⟨f1, f2, f3⟩ := fits_parts h.6
  have hl := leaveG_length S ch
  have hlA : (enterS (leaveG S ch) pa ch at').length = S.length := by rw [enterS_length, hl]
  have wfB := wf.leaveG hch
  have pB : (nd (leaveG S ch) ch).p = -1 := by rw [leaveG_p S hch, if_pos rfl]
  have putB : Puts (leaveG S ch) pa ch := ⟨wfB, by rw [hl]; exact hpa, by rw [hl]; exact hch, by rw [(leaveG_u S ch pa).1]; exact h.4, by rw [(leaveG_u S ch ch).1]; exact hcu, by
    unfold fitsB
    rw [(leaveG_u S ch ch).2.2.1, leaveG_under hpa f3]
    simp [f1]
    omega⟩
  have eB : leaveG (leaveG S ch) ch = leaveG S ch := leaveG_none pB
  have hback := putB.back at' pB
  rw [eB] at hback
  refine ⟨wf, h.insert at', hlA, hpa, hch, hcu, by rw [enter_p _ (by rw [hl]; exact hch), if_pos rfl], h.order at', ?_, fun i hi => ?_⟩
  · have hp : (nd (enterS (leaveG S ch) pa ch at') ch).p = pa := by rw [enter_p _ (by rw [hl]; exact hch), if_pos rfl]
    rw [leaveG_some hp]
    exact hback
  · rw [(enter_u _ _ _ _ _).1, (enter_u _ _ _ _ _).2.1, (leaveG_u _ _ _).1, (leaveG_u _ _ _).2.1]
    exact ⟨rfl, rfl⟩

theorem Puts.roots {S : List Nd} {pa ch : Nat} (_h : Puts S pa ch) (at' : Nat) : ∀ k, k < S.length → k ≠ ch → (nd S k).p < 0 → (nd (enterS (leaveG S ch) pa ch at') k).p < 0 := fun k hk hne hp => by
  rw [enter_p _ (by rw [leaveG_length]; exact hk), if_neg hne, leaveG_p S hk, if_neg hne]
  exact hp

set_option maxRecDepth 100000 in
set_option maxHeartbeats 1000000 in
theorem moves_err (G : GrownOk) (a : Option Addr) (c n : Nat) (P pu C cu : Int) (ha : Option Addr) (m hc : Nat) (E : Int) (hE : E ≠ 0) (w : World)
    (hI : ∀ W, Below w.heap.size w W → Calls Try.prog 25 #[.agg #[.slice a n c], .agg #[.int .i64 P, .int .i64 pu], .agg #[.int .i64 C, .int .i64 cu], .slice ha m hc] W fun e w' => e = .returned (.tuple #[.agg #[.slice none 0 0], .int .i64 E]) ∧ Below W.heap.size W w') :
    Calls Try.prog 8 #[.agg #[.slice a n c], .agg #[.int .i64 P, .int .i64 pu], .agg #[.int .i64 C, .int .i64 cu], .slice ha m hc] w fun e w' => e = .returned (.bool true) ∧ Below w.heap.size w w' := by
  have HI : Hid _ := hI
  have hz : (E == 0) = false := by simp [hE]
  clear hI
  go_enter Try.func8, Try.ntmps8
  go_wp2_with fail
  refine (HI.out _ (three_below _ _ _ _)).mono ?_
  rintro e w1 ⟨rfl, hb1⟩
  simp only [World.size_alloc] at hb1
  have HB1 : Hid (Below w.heap.size w w1) := (three_below _ _ _ _).trans (hb1.mono (by omega))
  clear hb1
  go_wp2_with fail
  refine (G _).mono ?_
  rintro e w2 ⟨rfl, hb2⟩
  have HB2 : Hid (Below w.heap.size w w2) := (HB1.out.alloc HB1.out.size _).trans (hb2.mono (by simp; have := HB1.out.size; omega))
  clear hb2
  go_wp2_with fail
  refine (G _).mono ?_
  rintro e w3 ⟨rfl, hb3⟩
  have HB3 : Hid (Below w.heap.size w w3) := HB2.out.trans (hb3.mono HB2.out.size)
  clear hb3
  go_wp2
  go_ret
  exact ⟨rfl, HB3.out⟩

theorem moves_any (G : GrownOk) (a : Option Addr) (c : Nat) (S : List Nd) (P pu C cu : Int) (ha : Option Addr) (hc : Nat) (hs : List (Int × Int)) (w : World) (hN : S.length ≤ 9223372036854775807) (hB : Big S) (hS : NdsAt w a S) (hL : hs.length ≤ 9223372036854775807) (hH : HandsAt w ha hs) :
    Calls Try.prog 8 #[.agg #[.slice a S.length c], .agg #[.int .i64 P, .int .i64 pu], .agg #[.int .i64 C, .int .i64 cu], .slice ha hs.length hc] w fun e w' => e = .returned (.bool true) ∧ Below w.heap.size w w' := by
  by_cases hm : 1 < hs.length
  · exact moves_err G a c S.length P pu C cu ha hs.length hc 3 (by omega) w (fun W _ => insert_many a c S.length P C pu cu ha hc hs.length W hm)
  · match hs, hm with
    | [], _ =>
      by_cases hE : tcheckE S [(P, pu), (C, cu)] = 0
      · obtain ⟨wf, hx⟩ := tcheck_wf hE
        obtain ⟨pa, e1, hpa, hpu, hpn⟩ := hx (P, pu) (by simp)
        obtain ⟨ch, e2, hch, hcu, hcn⟩ := hx (C, cu) (by simp)
        dsimp only at e1 e2 hpn hcn
        subst e1
        subst e2
        by_cases hf : fitsB S ch pa = true
        · have pt : Puts S pa ch := ⟨wf, hpa, hch, hpu, hcu, hf⟩
          obtain ⟨f1, f2, f3⟩ := fits_parts hf
          have hl := leaveG_length S ch
          have hK : ∀ i, i < S.length → (nd S i).ks.length ≤ 1000 := fun i hi => by have := wf.kids_small hi; omega
          have hp0 : (nd S ch).p = -1 ∨ ∃ p0 : Nat, p0 < S.length ∧ p0 ≠ ch ∧ (nd S ch).p = p0 := by
            by_cases e : (nd S ch).p = -1
            · exact Or.inl e
            · obtain ⟨p0, e0, g1, g2, _⟩ := wf.parent_place hch e
              exact Or.inr ⟨p0, g1, g2, e0⟩
          obtain ⟨at', hat⟩ : ∃ at', at' = (nd (leaveG S ch) pa).ks.length := ⟨_, rfl⟩
          have hlA : (enterS (leaveG S ch) pa ch at').length = S.length := by rw [enterS_length, hl]
          exact moves_ok G a c S (enterS (leaveG S ch) pa ch at') pa ch pu cu ha 0 hc w hS (fun W hW => (insert0_ok a c S pa ch pu cu ha hc at' W wf.small hB (hS.below hW) hE hch hpa f2 hf hp0 (by rw [hat]; rfl) (by omega) hK).mono (fun e w' ⟨g, he, hb, _, hn⟩ => ⟨g, he, hb, hn w' (fun _ _ => rfl)⟩)) (pt.moved at') hcn (pt.roots at')
        · exact moves_err G a c S.length pa pu ch cu ha 0 hc 6 (by omega) w (fun W hW => insert0_bad a c S pa ch pu cu ha hc W wf.small hB (hS.below hW) hE hch (by simpa using hf))
      · exact moves_err G a c S.length P pu C cu ha 0 hc _ hE w (fun W hW => insert0_err a c S P C pu cu ha hc _ W hN hB (hS.below hW) rfl hE)
    | _ :: _ :: _, h => exact absurd (by simp) h
    | [(Q, qu)], _ =>
      obtain ⟨hb0, ho0, rfl, _⟩ := hH 0 (by simp)
      by_cases hE : tcheckE S [(P, pu), (C, cu), (Q, qu)] = 0
      · obtain ⟨wf, hx⟩ := tcheck_wf hE
        obtain ⟨pa, e1, hpa, hpu, hpn⟩ := hx (P, pu) (by simp)
        obtain ⟨ch, e2, hch, hcu, hcn⟩ := hx (C, cu) (by simp)
        obtain ⟨q, e3, hq, hqu, hqn⟩ := hx (Q, qu) (by simp)
        dsimp only at e1 e2 e3 hpn hcn hqn
        subst e1
        subst e2
        subst e3
        by_cases hf : fitsB S ch pa = true
        · have pt : Puts S pa ch := ⟨wf, hpa, hch, hpu, hcu, hf⟩
          obtain ⟨f1, f2, f3⟩ := fits_parts hf
          have hl := leaveG_length S ch
          have hK : ∀ i, i < S.length → (nd S i).ks.length ≤ 1000 := fun i hi => by have := wf.kids_small hi; omega
          by_cases hqp : (nd S q).p = pa
          · by_cases hqc : q = ch
            · subst hqc
              have hcq : cu = qu := by omega
              subst hcq
              exact moves_ok G a c S S pa q pu cu _ 1 hc w hS (fun W hW => (insert1_self a c S pa q pu cu hb0 ho0 hc q cu W wf.small hB (hS.below hW) (hH.below hW) hE hq hq hf hqp rfl hK).mono (fun e w' ⟨g, he, hb, _, hn⟩ => ⟨g, he, hb, hn w' (fun _ _ => rfl)⟩)) ⟨wf, wf, rfl, hpa, hq, hcu, hqp, rfl, rfl, fun _ _ => ⟨rfl, rfl⟩⟩ hcn (fun _ _ _ h => h)
            · have hp0 : (nd S ch).p = -1 ∨ ∃ p0 : Nat, p0 < S.length ∧ p0 ≠ ch ∧ (nd S ch).p = p0 := by
                by_cases e : (nd S ch).p = -1
                · exact Or.inl e
                · obtain ⟨p0, e0, g1, g2, _⟩ := wf.parent_place hch e
                  exact Or.inr ⟨p0, g1, g2, e0⟩
              obtain ⟨at', hat, hatL, hatq⟩ := pt.ahead hq hqp hqc
              have hlA : (enterS (leaveG S ch) pa ch at').length = S.length := by rw [enterS_length, hl]
              exact moves_ok G a c S (enterS (leaveG S ch) pa ch at') pa ch pu cu _ 1 hc w hS (fun W hW => (insert1_ok a c S pa ch pu cu hb0 ho0 hc q qu at' W wf.small hB (hS.below hW) (hH.below hW) hE hch hpa hq f2 hf hp0 hqp (fun e => hqc (by have := congrArg Prod.fst e; simp at this; omega)) hat (by omega) hK).mono (fun e w' ⟨g, he, hb, _, hn⟩ => ⟨g, he, hb, hn w' (fun _ _ => rfl)⟩)) (pt.moved at') hcn (pt.roots at')
          · exact moves_err G a c S.length pa pu ch cu _ 1 hc 6 (by omega) w (fun W hW => insert1_away a c S pa ch pu cu hb0 ho0 hc q qu W wf.small hB (hS.below hW) (hH.below hW) hE hch hq hf hqp)
        · exact moves_err G a c S.length pa pu ch cu _ 1 hc 6 (by omega) w (fun W hW => insert1_bad a c S pa ch pu cu hb0 ho0 hc q qu W wf.small hB (hS.below hW) (hH.below hW) hE hch (by simpa using hf))
      · exact moves_err G a c S.length P pu C cu _ 1 hc _ hE w (fun W hW => insert1_err a c S P C pu cu hb0 ho0 hc Q qu _ W hN hB (hS.below hW) (hH.below hW) rfl hE)
end Go.Proofs.Ytjlapfgghljidaa
