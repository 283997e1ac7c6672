/-
  TreeKeeps where nothing is put; TreeKeeps at whatever arguments.
-/
import Derived.Test.YtcohimljgjlkdaaWo
import Derived.Test.YtcohimljgjlkdaaWc
import Derived.Test.YtcohimljgjlkdaaWh
import Derived.Test.YtcohimljgjlkdaaWi
namespace Go.Proofs.Ytcohimljgjlkdaa
open Go.ChangeShapes Go.WideShapes Go.ChangeAt Go.RowKit

set_option maxRecDepth 100000 in
set_option maxHeartbeats 1000000 in
theorem keeps_err (G : GrownOk) (a : Option Addr) (c n : Nat) (P pu C cu : Int) (ha : Option Addr) (m hc : Nat) (E : Int) (hE : E ≠ 0) (w : World)
    (hI : ∀ W, Below w.heap.size w W → Calls Try.prog 26 #[.agg #[.slice a n c], .agg #[.int .i64 P, .int .i64 pu], .agg #[.int .i64 C, .int .i64 cu], .slice ha m hc] W fun e w' => e = .returned (.tuple #[.agg #[.slice none 0 0], .int .i64 E]) ∧ Below W.heap.size W w') :
    Calls Try.prog 8 #[.agg #[.slice a n c], .agg #[.int .i64 P, .int .i64 pu], .agg #[.int .i64 C, .int .i64 cu], .slice ha m hc] w fun e w' => e = .returned (.bool true) ∧ Below w.heap.size w w' := by
  have HI : Hid _ := hI
  have hz : (E == 0) = false := by simp [hE]
  clear hI
  go_enter Try.func8, Try.ntmps8
  go_wp2_with fail
  refine (HI.out _ (three_below _ _ _ _)).mono ?_
  rintro e w1 ⟨rfl, hb1⟩
  simp only [World.size_alloc] at hb1
  have HB1 : Hid (Below w.heap.size w w1) := (three_below _ _ _ _).trans (hb1.mono (by omega))
  clear hb1
  go_wp2_with fail
  refine (G _).mono ?_
  rintro e w2 ⟨rfl, hb2⟩
  have HB2 : Hid (Below w.heap.size w w2) := (HB1.out.alloc HB1.out.size _).trans (hb2.mono (by simp; have := HB1.out.size; omega))
  clear hb2
  go_wp2_with fail
  refine (G _).mono ?_
  rintro e w3 ⟨rfl, hb3⟩
  have HB3 : Hid (Below w.heap.size w w3) := HB2.out.trans (hb3.mono HB2.out.size)
  clear hb3
  go_wp2
  go_ret
  exact ⟨rfl, HB3.out⟩

theorem keeps_any (G : GrownOk) (a : Option Addr) (c : Nat) (S : List Nd) (P pu C cu : Int) (ha : Option Addr) (hc : Nat) (hs : List (Int × Int)) (w : World) (hN : S.length ≤ 9223372036854775807) (hB : Big S) (hS : NdsAt w a S) (hL : hs.length ≤ 9223372036854775807) (hH : HandsAt w ha hs) :
    Calls Try.prog 8 #[.agg #[.slice a S.length c], .agg #[.int .i64 P, .int .i64 pu], .agg #[.int .i64 C, .int .i64 cu], .slice ha hs.length hc] w fun e w' => e = .returned (.bool true) ∧ Below w.heap.size w w' := by
  by_cases hm : 1 < hs.length
  · exact keeps_err G a c S.length P pu C cu ha hs.length hc 3 (by omega) w (fun W _ => insert_many a c S.length P C pu cu ha hc hs.length W hm)
  · match hs, hm with
    | [], _ =>
      by_cases hE : tcheckE S [(P, pu), (C, cu)] = 0
      · obtain ⟨wf, hx⟩ := tcheck_wf hE
        obtain ⟨pa, e1, hpa, hpu, hpn⟩ := hx (P, pu) (by simp)
        obtain ⟨ch, e2, hch, hcu, hcn⟩ := hx (C, cu) (by simp)
        dsimp only at e1 e2 hpn hcn
        subst e1
        subst e2
        by_cases hf : fitsB S ch pa = true
        · have pt : Puts S pa ch := ⟨wf, hpa, hch, hpu, hcu, hf⟩
          obtain ⟨f1, f2, f3⟩ := fits_parts hf
          have hl := leaveG_length S ch
          have hK : ∀ i, i < S.length → (nd S i).ks.length ≤ 1000 := fun i hi => by have := wf.kids_small hi; omega
          have hp0 : (nd S ch).p = -1 ∨ ∃ p0 : Nat, p0 < S.length ∧ p0 ≠ ch ∧ (nd S ch).p = p0 := by
            by_cases e : (nd S ch).p = -1
            · exact Or.inl e
            · obtain ⟨p0, e0, g1, g2, _⟩ := wf.parent_place hch e
              exact Or.inr ⟨p0, g1, g2, e0⟩
          obtain ⟨at', hat⟩ : ∃ at', at' = (nd (leaveG S ch) pa).ks.length := ⟨_, rfl⟩
          have hlA : (enterS (leaveG S ch) pa ch at').length = S.length := by rw [enterS_length, hl]
          obtain ⟨k1, k2⟩ := pt.kids at'
          refine keeps0 G a c S (enterS (leaveG S ch) pa ch at') pa ch pu cu ha hc w hS hB (fun W hW => (insert0_ok a c S pa ch pu cu ha hc at' W wf.small hB (hS.below hW) hE hch hpa f2 hf hp0 (by rw [hat]; rfl) (by omega) hK).mono ?_) hlA wf (pt.insert at') hpa hch ⟨hcu, hcn⟩ ?_ ?_ ?_ at' ?_ ?_ ?_ (pt.order at') ?_
          · rintro e w' ⟨g, he, hb, _, hn⟩
            exact ⟨g, he, hb, hn w' (fun _ _ => rfl)⟩
          · rw [(enter_u _ _ _ _ _).1, (enter_u _ _ _ _ _).2.1, (leaveG_u _ _ _).1, (leaveG_u _ _ _).2.1]; exact ⟨hpu, hpn⟩
          · rw [(enter_u _ _ _ _ _).1, (enter_u _ _ _ _ _).2.1, (leaveG_u _ _ _).1, (leaveG_u _ _ _).2.1]; exact ⟨hcu, hcn⟩
          · rw [enter_p _ (by rw [hl]; exact hch), if_pos rfl]
          · rw [k1]; exact idx_ins (by omega) k2
          · rw [k1, ins_length _ _ _ (by omega)]; omega
          · rw [k1, ins_length _ _ _ (by omega)]; omega
          · rcases hp0 with h | ⟨p0, _, _, h⟩
            · exact Or.inr (pt.back at' h)
            · exact Or.inl (by omega)
        · exact keeps_err G a c S.length pa pu ch cu ha 0 hc 6 (by omega) w (fun W hW => insert0_bad a c S pa ch pu cu ha hc W wf.small hB (hS.below hW) hE hch (by simpa using hf))
      · exact keeps_err G a c S.length P pu C cu ha 0 hc _ hE w (fun W hW => insert0_err a c S P C pu cu ha hc _ W hN hB (hS.below hW) rfl hE)
    | _ :: _ :: _, h => exact absurd (by simp) h
    | [(Q, qu)], _ =>
      obtain ⟨hb0, ho0, rfl, _⟩ := hH 0 (by simp)
      by_cases hE : tcheckE S [(P, pu), (C, cu), (Q, qu)] = 0
      · obtain ⟨wf, hx⟩ := tcheck_wf hE
        obtain ⟨pa, e1, hpa, hpu, hpn⟩ := hx (P, pu) (by simp)
        obtain ⟨ch, e2, hch, hcu, hcn⟩ := hx (C, cu) (by simp)
        obtain ⟨q, e3, hq, hqu, hqn⟩ := hx (Q, qu) (by simp)
        dsimp only at e1 e2 e3 hpn hcn hqn
        subst e1
        subst e2
        subst e3
        by_cases hf : fitsB S ch pa = true
        · have pt : Puts S pa ch := ⟨wf, hpa, hch, hpu, hcu, hf⟩
          obtain ⟨f1, f2, f3⟩ := fits_parts hf
          have hl := leaveG_length S ch
          have hK : ∀ i, i < S.length → (nd S i).ks.length ≤ 1000 := fun i hi => by have := wf.kids_small hi; omega
          by_cases hqp : (nd S q).p = pa
          · by_cases hqc : q = ch
            · subst hqc
              have hcq : cu = qu := by omega
              subst hcq
              obtain ⟨_, hin⟩ := wf.in_kids hq hqp
              obtain ⟨k, hk1, hk2, _⟩ := idx_lt hin
              refine keepsS G a c S S pa q pu cu hb0 ho0 hc w hS hB (fun W hW => (insert1_self a c S pa q pu cu hb0 ho0 hc q cu W wf.small hB (hS.below hW) (hH.below hW) hE hq hq hf hqp rfl hK).mono ?_) rfl wf wf hpa hq ⟨hcu, hcn⟩ ⟨hpu, hpn⟩ ⟨hcu, hcn⟩ hqp k hk1 hH rfl (Or.inl (by omega))
              rintro e w' ⟨g, he, hb, _, hn⟩
              exact ⟨g, he, hb, hn w' (fun _ _ => rfl)⟩
            · have hp0 : (nd S ch).p = -1 ∨ ∃ p0 : Nat, p0 < S.length ∧ p0 ≠ ch ∧ (nd S ch).p = p0 := by
                by_cases e : (nd S ch).p = -1
                · exact Or.inl e
                · obtain ⟨p0, e0, g1, g2, _⟩ := wf.parent_place hch e
                  exact Or.inr ⟨p0, g1, g2, e0⟩
              obtain ⟨at', hat, hatL, hatq⟩ := pt.ahead hq hqp hqc
              have hlA : (enterS (leaveG S ch) pa ch at').length = S.length := by rw [enterS_length, hl]
              obtain ⟨k1, k2⟩ := pt.kids at'
              refine keepsA G a c S (enterS (leaveG S ch) pa ch at') pa ch pu cu hb0 ho0 hc q qu w hS hB (fun W hW => (insert1_ok a c S pa ch pu cu hb0 ho0 hc q qu at' W wf.small hB (hS.below hW) (hH.below hW) hE hch hpa hq f2 hf hp0 hqp (fun e => hqc (by have := congrArg Prod.fst e; simp at this; omega)) hat (by omega) hK).mono ?_) hlA wf (pt.insert at') hpa hch ⟨hcu, hcn⟩ ?_ ?_ ?_ at' ?_ hH (by omega) ?_ ?_ (pt.order at') ?_
              · rintro e w' ⟨g, he, hb, _, hn⟩
                exact ⟨g, he, hb, hn w' (fun _ _ => rfl)⟩
              · rw [(enter_u _ _ _ _ _).1, (enter_u _ _ _ _ _).2.1, (leaveG_u _ _ _).1, (leaveG_u _ _ _).2.1]; exact ⟨hpu, hpn⟩
              · rw [(enter_u _ _ _ _ _).1, (enter_u _ _ _ _ _).2.1, (leaveG_u _ _ _).1, (leaveG_u _ _ _).2.1]; exact ⟨hcu, hcn⟩
              · rw [enter_p _ (by rw [hl]; exact hch), if_pos rfl]
              · rw [k1]; exact idx_ins (by omega) k2
              · rw [k1, ins_length _ _ _ (by omega)]; omega
              · rw [k1, ins_high _ _ _ _ (by omega) (by omega)]
                exact hatq
              · rcases hp0 with h | ⟨p0, _, _, h⟩
                · exact Or.inr (pt.back at' h)
                · exact Or.inl (by omega)
          · exact keeps_err G a c S.length pa pu ch cu _ 1 hc 6 (by omega) w (fun W hW => insert1_away a c S pa ch pu cu hb0 ho0 hc q qu W wf.small hB (hS.below hW) (hH.below hW) hE hch hq hf hqp)
        · exact keeps_err G a c S.length pa pu ch cu _ 1 hc 6 (by omega) w (fun W hW => insert1_bad a c S pa ch pu cu hb0 ho0 hc q qu W wf.small hB (hS.below hW) (hH.below hW) hE hch (by simpa using hf))
      · exact keeps_err G a c S.length P pu C cu _ 1 hc _ hE w (fun W hW => insert1_err a c S P C pu cu hb0 ho0 hc Q qu _ W hN hB (hS.below hW) (hH.below hW) rfl hE)
end Go.Proofs.Ytcohimljgjlkdaa
