/-
  CloneSays at whatever arguments.
-/
import Derived.Test.YthlpkdmmkfhleadJCq
import Derived.Test.YthlpkdmmkfhleadJCh
namespace Go.Proofs.Ythlpkdmmkfhlead
open Go.RowKit Go.ChangeShapes Go.WideShapes

def GoodS (w w1 w3 w4 : World) (a a' va ra sa : Option Addr) (n c n' c' m vc rc m' sc : Nat) (w'' : World) : Prop :=
  w''.cell? ⟨w.heap.size, 0, none⟩ = some (.slice a n c) ∧ w''.cell? ⟨w.heap.size + 1, 0, none⟩ = some (.slice a' n' c') ∧ w''.cell? ⟨w1.heap.size, 0, none⟩ = some (.slice va m vc) ∧ w''.cell? ⟨w3.heap.size, 0, none⟩ = some (.slice ra m rc) ∧ w''.cell? ⟨w4.heap.size, 0, none⟩ = some (.slice sa m' sc)

theorem GoodS.below {w w1 w3 w4 : World} {a a' va ra sa : Option Addr} {n c n' c' m vc rc m' sc : Nat} {W W' : World} (h : GoodS w w1 w3 w4 a a' va ra sa n c n' c' m vc rc m' sc W) (hb : Below W.heap.size W W') : GoodS w w1 w3 w4 a a' va ra sa n c n' c' m vc rc m' sc W' :=
  ⟨keepC h.1 hb, keepC h.2.1 hb, keepC h.2.2.1 hb, keepC h.2.2.2.1 hb, keepC h.2.2.2.2 hb⟩

set_option maxRecDepth 100000 in
set_option maxHeartbeats 16000000 in
theorem cloneSays_any (a a' : Option Addr) (c c' : Nat) (G J : List Cl) (w : World) (hN : G.length ≤ 9223372036854775807) (hN' : J.length ≤ 9223372036854775807) (hB : BigC G) (hB' : BigC J) (hS : ClsAt w a G) (hS' : ClsAt w a' J) :
    Calls Try.prog 4 #[.agg #[.slice a G.length c], .agg #[.slice a' J.length c']] w fun e w' => e = .returned (.bool true) ∧ Below w.heap.size w w' := by
  have D1 : Hid (∀ W, ClsAt W a G → Calls _ _ _ _ _) := fun W hW => copy_any a c G W hN hB hW
  have D2 : Hid (∀ W, ClsAt W a G → ClsAt W a' J → Calls _ _ _ _ _) := fun W h1 h2 => like_any a a' c c' G J W hN hN' hB hB' h1 h2
  have D3 : Hid (∀ W, ClsAt W a G → Calls _ _ _ _ _) := fun W hW => rcopied_any a c G W hN hB hW
  have D4 : Hid (∀ W, ClsAt W a' J → Calls _ _ _ _ _) := fun W hW => rcopied_any a' c' J W hN' hB' hW
  have D5 : Hid (∀ W, ClsAt W a G → Calls _ _ _ _ _) := fun W hW => gcheck_any a c G W hN hB hW
  have D6 : Hid (∀ W, ClsAt W a G → Calls _ _ _ _ _) := fun W hW => rgcheck_any a c G W hN hB hW
  have SAM : ∀ (r : Bool) (p : Prop) (b : Bool), (b = true ↔ p) → (r = true ↔ p) → r = b := fun r p b h1 h2 => by
    cases r <;> cases b <;> simp_all
  obtain ⟨bs, hbs⟩ : ∃ b : Bool, b = true ↔ G = J := ⟨decide (G = J), by simp⟩
  obtain ⟨bc, hbc⟩ : ∃ b : Bool, b = true ↔ resF G = resF J := ⟨decide (resF G = resF J), by simp⟩
  have D7 : Hid (∀ W, ClsAt W a G → ClsAt W a' J → Calls Try.prog 22 #[.agg #[.slice a G.length c], .agg #[.slice a' J.length c']] W fun e w' => e = .returned (.bool bs) ∧ Below W.heap.size W w') := fun W h1 h2 => by
    refine (gsame_any a a' c c' G J W hN hB h1 h2).mono ?_
    rintro e w' ⟨r, rfl, hb, hr⟩
    exact ⟨by rw [SAM r _ bs hbs hr], hb⟩
  have D8 : Hid (∀ W, ClsAt W a G → ClsAt W a' J → Calls Try.prog 23 #[.agg #[.slice a G.length c], .agg #[.slice a' J.length c']] W fun e w' => e = .returned (.bool bs) ∧ Below W.heap.size W w') := fun W h1 h2 => by
    refine (rgsame_any a a' c c' G J W hN hB h1 h2).mono ?_
    rintro e w' ⟨r, rfl, hb, hr⟩
    exact ⟨by rw [SAM r _ bs hbs hr], hb⟩
  have D9 : Hid (∀ va vc ra rc W, ClsAt W va (resF G) → ClsAt W ra (resF G) → Calls Try.prog 23 #[.agg #[.slice va (resF G).length vc], .agg #[.slice ra (resF G).length rc]] W fun e w' => e = .returned (.bool true) ∧ Below W.heap.size W w') := fun va vc ra rc W h1 h2 => by
    refine (rgsame_any va ra vc rc (resF G) (resF G) W (by have := res_few G; omega) (res_big G) h1 h2).mono ?_
    rintro e w' ⟨r, rfl, hb, hr⟩
    exact ⟨by rw [hr.2 rfl], hb⟩
  have D10 : Hid (∀ ra rc sa sc W, ClsAt W ra (resF G) → ClsAt W sa (resF J) → Calls Try.prog 23 #[.agg #[.slice ra (resF G).length rc], .agg #[.slice sa (resF J).length sc]] W fun e w' => e = .returned (.bool bc) ∧ Below W.heap.size W w') := fun ra rc sa sc W h1 h2 => by
    refine (rgsame_any ra sa rc sc (resF G) (resF J) W (by have := res_few G; omega) (res_big G) h1 h2).mono ?_
    rintro e w' ⟨r, rfl, hb, hr⟩
    exact ⟨by rw [SAM r _ bc hbc hr], hb⟩
  have LK : Hid (∀ r : Bool, (r = true ↔ likeE G J = 0 ∧ copyF G = copyF J) → (gcheckE G ≠ 0 → r = false ∧ likeE G J = gcheckE G) ∧ (gcheckE G = 0 → gcheckE J ≠ 0 → r = false ∧ likeE G J = gcheckE J) ∧ (gcheckE G = 0 → gcheckE J = 0 → r = bc ∧ likeE G J = 0)) := fun r hr => by
    refine ⟨fun h => ?_, fun h1 h2 => ?_, fun h1 h2 => ?_⟩
    · have e : likeE G J = gcheckE G := by unfold likeE; rw [if_neg h]
      refine ⟨?_, e⟩
      cases r with
      | false => rfl
      | true => exact absurd (e.symm.trans (hr.1 rfl).1) h
    · have e : likeE G J = gcheckE J := by unfold likeE; rw [if_pos h1]
      refine ⟨?_, e⟩
      cases r with
      | false => rfl
      | true => exact absurd (e.symm.trans (hr.1 rfl).1) h2
    · have e : likeE G J = 0 := by unfold likeE; rw [if_pos h1]; exact h2
      refine ⟨?_, e⟩
      refine SAM r _ bc hbc ?_
      rw [hr, show resF G = copyF G from if_pos h1, show resF J = copyF J from if_pos h2]
      simp [e]
  have DC : Hid ClonedOk := cloned_ok
  have HS : Hid (ClsAt w a G) := hS
  have HS' : Hid (ClsAt w a' J) := hS'
  clear hS hS' hB hB' SAM hbs hbc
  generalize likeE G J = LE at *
  generalize gcheckE G = E at *
  generalize gcheckE J = F at *
  generalize resF G = X at *
  generalize resF J = Y at *
  generalize G.length = n at *
  generalize J.length = n' at *
  obtain ⟨m, hm⟩ : ∃ z, X.length = z := ⟨_, rfl⟩
  have HM : Hid (X.length = m) := hm
  obtain ⟨m', hm'⟩ : ∃ z, Y.length = z := ⟨_, rfl⟩
  have HM' : Hid (Y.length = m') := hm'
  rw [hm] at D9 D10
  rw [hm'] at D10
  clear hm hm'
  go_enter Try.func4, Try.ntmps4
  go_wp2_with fail
  refine Calls.mono (D1.out _ (HS.out.below (two_belowS _ _ _))) ?_
  rintro e w1 ⟨v, rfl, hb, K, hown⟩
  obtain ⟨va, vc, hv, hcl⟩ := hown.cls
  rw [HM.out] at hv
  subst hv
  have l0 := keepC (alloc_cell1 w #[.slice a n c] 47 0 (.cells #[.slice a' n' c'] 47) rfl) hb
  have l1 := keepC (alloc_cell2 w #[.slice a' n' c'] 47 0 (.cells #[.slice a n c] 47) rfl) hb
  have HB1 : Hid (Below w.heap.size w w1) := (two_belowS w _ _).trans (hb.mono (by simp; omega))
  have HX1 : Hid (ClsAt w1 va X) := hcl
  have q0 := World.block_lt_of_cell? _ _ l0
  have q1 := World.block_lt_of_cell? _ _ l1
  clear hb hown hcl D1
  have A0 := keepC l0 (one_belowS w1 (.cells #[.slice va m vc] 47))
  have A1 := keepC l1 (one_belowS w1 (.cells #[.slice va m vc] 47))
  have A2 := alloc_cell w1 #[.slice va m vc] 47 0 (v := .slice va m vc) rfl
  have HBa : Hid (Below w.heap.size w (w1.alloc (.cells #[.slice va m vc] 47))) := HB1.out.trans ((one_belowS _ _).mono HB1.out.size)
  go_wp2_with fail
  refine Calls.mono (D2.out _ (HS.out.below HBa.out) (HS'.out.below HBa.out)) ?_
  rintro e w2 ⟨r, rfl, hb, hr⟩
  have LKr : Hid _ := LK.out r hr
  have m0 := keepC A0 hb
  have m1 := keepC A1 hb
  have m2 := keepC A2 hb
  have HB2 : Hid (Below w.heap.size w w2) := HBa.out.trans (hb.mono HBa.out.size)
  have HX2 : Hid (ClsAt w2 va X) := (HX1.out.below (one_belowS _ _)).below hb
  clear hb hr l0 l1 A0 A1 A2 HX1 D2 LK HBa q0 q1
  go_wp2_with fail
  refine Calls.mono (D3.out _ (HS.out.below HB2.out)) ?_
  rintro e w3 ⟨v, rfl, hb, K3, hown⟩
  obtain ⟨ra, rc, hv, hcl⟩ := hown.cls
  rw [HM.out] at hv
  subst hv
  have n0 := keepC m0 hb
  have n1 := keepC m1 hb
  have n2 := keepC m2 hb
  have HB3 : Hid (Below w.heap.size w w3) := HB2.out.trans (hb.mono HB2.out.size)
  have HX3 : Hid (ClsAt w3 va X) := HX2.out.below hb
  have HR3 : Hid (ClsAt w3 ra X) := hcl
  clear hb hown hcl D3 m0 m1 m2 HX2
  have A0 := keepC n0 (one_belowS w3 (.cells #[.slice ra m rc] 47))
  have A1 := keepC n1 (one_belowS w3 (.cells #[.slice ra m rc] 47))
  have A2 := keepC n2 (one_belowS w3 (.cells #[.slice ra m rc] 47))
  have A3 := alloc_cell w3 #[.slice ra m rc] 47 0 (v := .slice ra m rc) rfl
  have q0 := World.block_lt_of_cell? _ _ n0
  have q1 := World.block_lt_of_cell? _ _ n1
  have q2 := World.block_lt_of_cell? _ _ n2
  have HBa : Hid (Below w.heap.size w (w3.alloc (.cells #[.slice ra m rc] 47))) := HB3.out.trans ((one_belowS _ _).mono HB3.out.size)
  go_wp2_with fail
  refine Calls.mono (D4.out _ (HS'.out.below HBa.out)) ?_
  rintro e w4 ⟨v, rfl, hb, K4, hown⟩
  obtain ⟨sa, sc, hv, hcl⟩ := hown.cls
  rw [HM'.out] at hv
  subst hv
  have p0 := keepC A0 hb
  have p1 := keepC A1 hb
  have p2 := keepC A2 hb
  have p3 := keepC A3 hb
  have HB4 : Hid (Below w.heap.size w w4) := HBa.out.trans (hb.mono HBa.out.size)
  have HX4 : Hid (ClsAt w4 va X) := (HX3.out.below (one_belowS _ _)).below hb
  have HR4 : Hid (ClsAt w4 ra X) := (HR3.out.below (one_belowS _ _)).below hb
  have HY4 : Hid (ClsAt w4 sa Y) := hcl
  clear hb hown hcl D4 A0 A1 A2 A3 n0 n1 n2 q0 q1 q2 HX3 HR3 HBa
  obtain ⟨W5, hW5⟩ : ∃ W5, w4.alloc (.cells #[.slice sa m' sc] 47) = W5 := ⟨_, rfl⟩
  have G5 : Hid (GoodS w w1 w3 w4 a a' va ra sa n c n' c' m vc rc m' sc W5) := by
    rw [← hW5]
    exact ⟨keepC p0 (one_belowS _ _), keepC p1 (one_belowS _ _), keepC p2 (one_belowS _ _), keepC p3 (one_belowS _ _), alloc_cell w4 _ _ 0 rfl⟩
  have HB5 : Hid (Below w.heap.size w W5) := by rw [← hW5]; exact HB4.out.trans ((one_belowS _ _).mono HB4.out.size)
  have HX5 : Hid (ClsAt W5 va X) := by rw [← hW5]; exact HX4.out.below (one_belowS _ _)
  have HR5 : Hid (ClsAt W5 ra X) := by rw [← hW5]; exact HR4.out.below (one_belowS _ _)
  have HY5 : Hid (ClsAt W5 sa Y) := by rw [← hW5]; exact HY4.out.below (one_belowS _ _)
  clear HX4 HR4 HY4
  by_cases hE : E = 0
  · by_cases hF : F = 0
    · obtain ⟨e1, e2⟩ := LKr.out.2.2 hE hF
      subst hE
      subst hF
      subst e1
      subst e2
      go_upto_region 8 with fail
      try rw [hW5]
      clear hW5 p0 p1 p2 p3
      go_wp2_with fail
      have GSw0 : GoodS w w1 w3 w4 a a' va ra sa n c n' c' m vc rc m' sc W5.drew := G5.out
      have HBw0 : Hid (Below w.heap.size w W5.drew) := HB5.out.drew
      have HXw0 : Hid (ClsAt W5.drew va X) := HX5.out
      have HRw0 : Hid (ClsAt W5.drew ra X) := HR5.out
      have HYw0 : Hid (ClsAt W5.drew sa Y) := HY5.out
      refine wp_region_noPanic ?_
      refine wp_region_held_drew (S := fun w'' => w''.cell? ⟨w.heap.size, 0, none⟩ = some (.slice a n c) ∧ w''.cell? ⟨w.heap.size + 1, 0, none⟩ = some (.slice a' n' c') ∧ w''.cell? ⟨w1.heap.size, 0, none⟩ = some (.slice va m vc) ∧ w''.cell? ⟨w3.heap.size, 0, none⟩ = some (.slice ra m rc) ∧ w''.cell? ⟨w4.heap.size, 0, none⟩ = some (.slice sa m' sc)) (by kernel_rfl) (by exact GSw0) (fun hHeld => ?_)
      refine wpAnyH_ready (rs := [0]) (by kernel_rfl) (by simp) ?_
      refine AllReadyH.cons rfl (fun K hK => ?_) AllReadyH.nil
      go_simp
      refine Calls.mono (DC.out _) ?_
      rintro e w10 ⟨rfl, hb⟩
      have GSw10 := GSw0.below hb
      have HBw10 : Hid (Below w.heap.size w w10) := HBw0.out.trans (hb.mono HBw0.out.size)
      have HXw10 : Hid (ClsAt w10 va X) := HXw0.out.below hb
      have HRw10 : Hid (ClsAt w10 ra X) := HRw0.out.below hb
      have HYw10 : Hid (ClsAt w10 sa Y) := HYw0.out.below hb
      clear hb HXw0 HRw0 HYw0
      go_wp2_with fail
      refine hK.out _ _ ?_ (fun hHeld => ?_)
      · (try dsimp only)
        exact GSw10
      clear hK K
      try simp
      refine wpAnyH_take (i := 1) (v := ?_) rfl (by kernel_rfl) (by kernel_rfl) (by kernel_rfl) (fun _ _ _ h => h) (Or.inl ⟨by rfl, ?_⟩) (by assumption) ?_
      rotate_left
      · intro w hSw; (try dsimp only at hSw); first | (go_simp; done) | (go_simp; with_reducible rfl)
      simp [Act.put]
      refine wpAnyH_take (i := 2) (v := ?_) rfl (by kernel_rfl) (by kernel_rfl) (by kernel_rfl) (fun _ _ _ h => h) (Or.inl ⟨by rfl, ?_⟩) (by assumption) ?_
      rotate_left
      · intro w hSw; (try dsimp only at hSw); first | (go_simp; done) | (go_simp; with_reducible rfl)
      simp [Act.put]
      refine wpAnyH_take (i := 4) (v := ?_) rfl (by kernel_rfl) (by kernel_rfl) (by kernel_rfl) (fun _ _ _ h => h) (Or.inl ⟨by rfl, ?_⟩) (by assumption) ?_
      rotate_left
      · intro w hSw; (try dsimp only at hSw); first | (go_simp; done) | (go_simp; with_reducible rfl)
      simp [Act.put]
      refine wpAnyH_ready (rs := [3]) (by kernel_rfl) (by simp) ?_
      refine AllReadyH.cons rfl (fun K hK => ?_) AllReadyH.nil
      go_simp
      refine Calls.mono (D5.out _ (HS.out.below HBw10.out)) ?_
      rintro e w11 ⟨rfl, hb⟩
      have GSw11 := GSw10.below hb
      have HBw11 : Hid (Below w.heap.size w w11) := HBw10.out.trans (hb.mono HBw10.out.size)
      have HXw11 : Hid (ClsAt w11 va X) := HXw10.out.below hb
      have HRw11 : Hid (ClsAt w11 ra X) := HRw10.out.below hb
      have HYw11 : Hid (ClsAt w11 sa Y) := HYw10.out.below hb
      clear hb HXw10 HRw10 HYw10
      go_wp2_with fail
      refine hK.out _ _ ?_ (fun hHeld => ?_)
      · (try dsimp only)
        exact GSw11
      clear hK K
      try simp [Act.put]
      refine wpAnyH_ready (rs := [5]) (by kernel_rfl) (by simp) ?_
      refine AllReadyH.cons rfl (fun K hK => ?_) AllReadyH.nil
      go_simp
      refine Calls.mono (D6.out _ (HS.out.below HBw11.out)) ?_
      rintro e w12 ⟨rfl, hb⟩
      have GSw12 := GSw11.below hb
      have HBw12 : Hid (Below w.heap.size w w12) := HBw11.out.trans (hb.mono HBw11.out.size)
      have HXw12 : Hid (ClsAt w12 va X) := HXw11.out.below hb
      have HRw12 : Hid (ClsAt w12 ra X) := HRw11.out.below hb
      have HYw12 : Hid (ClsAt w12 sa Y) := HYw11.out.below hb
      clear hb HXw11 HRw11 HYw11
      go_wp2_with fail
      refine hK.out _ _ ?_ (fun hHeld => ?_)
      · (try dsimp only)
        exact GSw12
      clear hK K
      try simp [Act.put]
      refine wpAnyH_take (i := 6) (v := ?_) rfl (by kernel_rfl) (by kernel_rfl) (by kernel_rfl) (fun _ _ _ h => h) (Or.inl ⟨by rfl, ?_⟩) (by assumption) ?_
      rotate_left
      · intro w hSw; (try dsimp only at hSw); first | (go_simp; done) | (go_simp; with_reducible rfl)
      simp [Act.put]
      refine wpAnyH_take (i := 7) (v := ?_) rfl (by kernel_rfl) (by kernel_rfl) (by kernel_rfl) (fun _ _ _ h => h) (Or.inl ⟨by rfl, ?_⟩) (by assumption) ?_
      rotate_left
      · intro w hSw; (try dsimp only at hSw); first | (go_simp; done) | (go_simp; with_reducible rfl)
      simp [Act.put]
      refine wpAnyH_take (i := 8) (v := ?_) rfl (by kernel_rfl) (by kernel_rfl) (by kernel_rfl) (fun _ _ _ h => h) (Or.inl ⟨by rfl, ?_⟩) (by assumption) ?_
      rotate_left
      · intro w hSw; (try dsimp only at hSw); first | (go_simp; done) | (go_simp; with_reducible rfl)
      simp [Act.put]
      refine wpAnyH_take (i := 9) (v := ?_) rfl (by kernel_rfl) (by kernel_rfl) (by kernel_rfl) (fun _ _ _ h => h) (Or.inl ⟨by rfl, ?_⟩) (by assumption) ?_
      rotate_left
      · intro w hSw; (try dsimp only at hSw); first | (go_simp; done) | (go_simp; with_reducible rfl)
      simp [Act.put]
      refine wpAnyH_take (i := 10) (v := ?_) rfl (by kernel_rfl) (by kernel_rfl) (by kernel_rfl) (fun _ _ _ h => h) (Or.inl ⟨by rfl, ?_⟩) (by assumption) ?_
      rotate_left
      · intro w hSw; (try dsimp only at hSw); first | (go_simp; done) | (go_simp; with_reducible rfl)
      simp [Act.put]
      refine wpAnyH_take (i := 12) (v := ?_) rfl (by kernel_rfl) (by kernel_rfl) (by kernel_rfl) (fun _ _ _ h => h) (Or.inl ⟨by rfl, ?_⟩) (by assumption) ?_
      rotate_left
      · intro w hSw; (try dsimp only at hSw); first | (go_simp; done) | (go_simp; with_reducible rfl)
      simp [Act.put]
      refine wpAnyH_take (i := 13) (v := ?_) rfl (by kernel_rfl) (by kernel_rfl) (by kernel_rfl) (fun _ _ _ h => h) (Or.inl ⟨by rfl, ?_⟩) (by assumption) ?_
      rotate_left
      · intro w hSw; (try dsimp only at hSw); first | (go_simp; done) | (go_simp; with_reducible rfl)
      simp [Act.put]
      refine wpAnyH_ready (rs := [11]) (by kernel_rfl) (by simp) ?_
      refine AllReadyH.cons rfl (fun K hK => ?_) AllReadyH.nil
      go_simp
      refine Calls.mono (D7.out _ (HS.out.below HBw12.out) (HS'.out.below HBw12.out)) ?_
      rintro e w13 ⟨rfl, hb⟩
      have GSw13 := GSw12.below hb
      have HBw13 : Hid (Below w.heap.size w w13) := HBw12.out.trans (hb.mono HBw12.out.size)
      have HXw13 : Hid (ClsAt w13 va X) := HXw12.out.below hb
      have HRw13 : Hid (ClsAt w13 ra X) := HRw12.out.below hb
      have HYw13 : Hid (ClsAt w13 sa Y) := HYw12.out.below hb
      clear hb HXw12 HRw12 HYw12
      go_wp2_with fail
      refine hK.out _ _ ?_ (fun hHeld => ?_)
      · (try dsimp only)
        exact GSw13
      clear hK K
      try simp [Act.put]
      refine wpAnyH_ready (rs := [14]) (by kernel_rfl) (by simp) ?_
      refine AllReadyH.cons rfl (fun K hK => ?_) AllReadyH.nil
      go_simp
      refine Calls.mono (D8.out _ (HS.out.below HBw13.out) (HS'.out.below HBw13.out)) ?_
      rintro e w14 ⟨rfl, hb⟩
      have GSw14 := GSw13.below hb
      have HBw14 : Hid (Below w.heap.size w w14) := HBw13.out.trans (hb.mono HBw13.out.size)
      have HXw14 : Hid (ClsAt w14 va X) := HXw13.out.below hb
      have HRw14 : Hid (ClsAt w14 ra X) := HRw13.out.below hb
      have HYw14 : Hid (ClsAt w14 sa Y) := HYw13.out.below hb
      clear hb HXw13 HRw13 HYw13
      go_wp2_with fail
      refine hK.out _ _ ?_ (fun hHeld => ?_)
      · (try dsimp only)
        exact GSw14
      clear hK K
      try simp [Act.put]
      refine wpAnyH_take (i := 15) (v := ?_) rfl (by kernel_rfl) (by kernel_rfl) (by kernel_rfl) (fun _ _ _ h => h) (Or.inl ⟨by rfl, ?_⟩) (by assumption) ?_
      rotate_left
      · intro w hSw; (try dsimp only at hSw); first | (go_simp; done) | (go_simp; with_reducible rfl)
      simp [Act.put]
      refine wpAnyH_take (i := 16) (v := ?_) rfl (by kernel_rfl) (by kernel_rfl) (by kernel_rfl) (fun _ _ _ h => h) (Or.inl ⟨by rfl, ?_⟩) (by assumption) ?_
      rotate_left
      · intro w hSw; (try dsimp only at hSw); first | (go_simp; done) | (go_simp; with_reducible rfl)
      simp [Act.put]
      refine wpAnyH_take (i := 17) (v := ?_) rfl (by kernel_rfl) (by kernel_rfl) (by kernel_rfl) (fun _ _ _ h => h) (Or.inl ⟨by rfl, ?_⟩) (by assumption) ?_
      rotate_left
      · intro w hSw; (try dsimp only at hSw); first | (go_simp; done) | (go_simp; with_reducible rfl)
      simp [Act.put]
      refine wpAnyH_take (i := 18) (v := ?_) rfl (by kernel_rfl) (by kernel_rfl) (by kernel_rfl) (fun _ _ _ h => h) (Or.inl ⟨by rfl, ?_⟩) (by assumption) ?_
      rotate_left
      · intro w hSw; (try dsimp only at hSw); first | (go_simp; done) | (go_simp; with_reducible rfl)
      simp [Act.put]
      refine wpAnyH_take (i := 19) (v := ?_) rfl (by kernel_rfl) (by kernel_rfl) (by kernel_rfl) (fun _ _ _ h => h) (Or.inl ⟨by rfl, ?_⟩) (by assumption) ?_
      rotate_left
      · intro w hSw; (try dsimp only at hSw); first | (go_simp; done) | (go_simp; with_reducible rfl)
      simp [Act.put]
      refine wpAnyH_take (i := 20) (v := ?_) rfl (by kernel_rfl) (by kernel_rfl) (by kernel_rfl) (fun _ _ _ h => h) (Or.inl ⟨by rfl, ?_⟩) (by assumption) ?_
      rotate_left
      · intro w hSw; (try dsimp only at hSw); first | (go_simp; done) | (go_simp; with_reducible rfl)
      simp [Act.put]
      refine wpAnyH_take (i := 21) (v := ?_) rfl (by kernel_rfl) (by kernel_rfl) (by kernel_rfl) (fun _ _ _ h => h) (Or.inl ⟨by rfl, ?_⟩) (by assumption) ?_
      rotate_left
      · intro w hSw; (try dsimp only at hSw); first | (go_simp; done) | (go_simp; with_reducible rfl)
      simp [Act.put]
      refine wpAnyH_take (i := 22) (v := ?_) rfl (by kernel_rfl) (by kernel_rfl) (by kernel_rfl) (fun _ _ _ h => h) (Or.inl ⟨by rfl, ?_⟩) (by assumption) ?_
      rotate_left
      · intro w hSw; (try dsimp only at hSw); first | (go_simp; done) | (go_simp; with_reducible rfl)
      simp [Act.put]
      refine wpAnyH_take (i := 23) (v := ?_) rfl (by kernel_rfl) (by kernel_rfl) (by kernel_rfl) (fun _ _ _ h => h) (Or.inl ⟨by rfl, ?_⟩) (by assumption) ?_
      rotate_left
      · intro w hSw; (try dsimp only at hSw); first | (go_simp; done) | (go_simp; with_reducible rfl)
      simp [Act.put]
      refine wpAnyH_take (i := 24) (v := ?_) rfl (by kernel_rfl) (by kernel_rfl) (by kernel_rfl) (fun _ _ _ h => h) (Or.inl ⟨by rfl, ?_⟩) (by assumption) ?_
      rotate_left
      · intro w hSw; (try dsimp only at hSw); first | (go_simp; done) | (go_simp; with_reducible rfl)
      simp [Act.put]
      refine wpAnyH_ready (rs := [25]) (by kernel_rfl) (by simp) ?_
      refine AllReadyH.cons rfl (fun K hK => ?_) AllReadyH.nil
      go_simp
      refine Calls.mono (D9.out va vc ra rc _ HXw14.out HRw14.out) ?_
      rintro e w15 ⟨rfl, hb⟩
      have GSw15 := GSw14.below hb
      have HBw15 : Hid (Below w.heap.size w w15) := HBw14.out.trans (hb.mono HBw14.out.size)
      have HXw15 : Hid (ClsAt w15 va X) := HXw14.out.below hb
      have HRw15 : Hid (ClsAt w15 ra X) := HRw14.out.below hb
      have HYw15 : Hid (ClsAt w15 sa Y) := HYw14.out.below hb
      clear hb HXw14 HRw14 HYw14
      go_wp2_with fail
      refine hK.out _ _ ?_ (fun hHeld => ?_)
      · (try dsimp only)
        exact GSw15
      clear hK K
      try simp [Act.put]
      refine wpAnyH_take (i := 26) (v := ?_) rfl (by kernel_rfl) (by kernel_rfl) (by kernel_rfl) (fun _ _ _ h => h) (Or.inl ⟨by rfl, ?_⟩) (by assumption) ?_
      rotate_left
      · intro w hSw; (try dsimp only at hSw); first | (go_simp; done) | (go_simp; with_reducible rfl)
      simp [Act.put]
      refine wpAnyH_take (i := 27) (v := ?_) rfl (by kernel_rfl) (by kernel_rfl) (by kernel_rfl) (fun _ _ _ h => h) (Or.inl ⟨by rfl, ?_⟩) (by assumption) ?_
      rotate_left
      · intro w hSw; (try dsimp only at hSw); first | (go_simp; done) | (go_simp; with_reducible rfl)
      simp [Act.put]
      refine wpAnyH_take (i := 28) (v := ?_) rfl (by kernel_rfl) (by kernel_rfl) (by kernel_rfl) (fun _ _ _ h => h) (Or.inl ⟨by rfl, ?_⟩) (by assumption) ?_
      rotate_left
      · intro w hSw; (try dsimp only at hSw); first | (go_simp; done) | (go_simp; with_reducible rfl)
      simp [Act.put]
      refine wpAnyH_take (i := 29) (v := ?_) rfl (by kernel_rfl) (by kernel_rfl) (by kernel_rfl) (fun _ _ _ h => h) (Or.inl ⟨by rfl, ?_⟩) (by assumption) ?_
      rotate_left
      · intro w hSw; (try dsimp only at hSw); first | (go_simp; done) | (go_simp; with_reducible rfl)
      simp [Act.put]
      refine wpAnyH_take (i := 30) (v := ?_) rfl (by kernel_rfl) (by kernel_rfl) (by kernel_rfl) (fun _ _ _ h => h) (Or.inl ⟨by rfl, ?_⟩) (by assumption) ?_
      rotate_left
      · intro w hSw; (try dsimp only at hSw); first | (go_simp; done) | (go_simp; with_reducible rfl)
      simp [Act.put]
      refine wpAnyH_take (i := 31) (v := ?_) rfl (by kernel_rfl) (by kernel_rfl) (by kernel_rfl) (fun _ _ _ h => h) (Or.inl ⟨by rfl, ?_⟩) (by assumption) ?_
      rotate_left
      · intro w hSw; (try dsimp only at hSw); first | (go_simp; done) | (go_simp; with_reducible rfl)
      simp [Act.put]
      refine wpAnyH_take (i := 32) (v := ?_) rfl (by kernel_rfl) (by kernel_rfl) (by kernel_rfl) (fun _ _ _ h => h) (Or.inl ⟨by rfl, ?_⟩) (by assumption) ?_
      rotate_left
      · intro w hSw; (try dsimp only at hSw); first | (go_simp; done) | (go_simp; with_reducible rfl)
      simp [Act.put]
      refine wpAnyH_take (i := 33) (v := ?_) rfl (by kernel_rfl) (by kernel_rfl) (by kernel_rfl) (fun _ _ _ h => h) (Or.inl ⟨by rfl, ?_⟩) (by assumption) ?_
      rotate_left
      · intro w hSw; (try dsimp only at hSw); first | (go_simp; done) | (go_simp; with_reducible rfl)
      simp [Act.put]
      refine wpAnyH_take (i := 34) (v := ?_) rfl (by kernel_rfl) (by kernel_rfl) (by kernel_rfl) (fun _ _ _ h => h) (Or.inl ⟨by rfl, ?_⟩) (by assumption) ?_
      rotate_left
      · intro w hSw; (try dsimp only at hSw); first | (go_simp; done) | (go_simp; with_reducible rfl)
      simp [Act.put]
      refine wpAnyH_take (i := 35) (v := ?_) rfl (by kernel_rfl) (by kernel_rfl) (by kernel_rfl) (fun _ _ _ h => h) (Or.inl ⟨by rfl, ?_⟩) (by assumption) ?_
      rotate_left
      · intro w hSw; (try dsimp only at hSw); first | (go_simp; done) | (go_simp; with_reducible rfl)
      simp [Act.put]
      refine wpAnyH_take (i := 36) (v := ?_) rfl (by kernel_rfl) (by kernel_rfl) (by kernel_rfl) (fun _ _ _ h => h) (Or.inl ⟨by rfl, ?_⟩) (by assumption) ?_
      rotate_left
      · intro w hSw; (try dsimp only at hSw); first | (go_simp; done) | (go_simp; with_reducible rfl)
      simp [Act.put]
      refine wpAnyH_take (i := 37) (v := ?_) rfl (by kernel_rfl) (by kernel_rfl) (by kernel_rfl) (fun _ _ _ h => h) (Or.inl ⟨by rfl, ?_⟩) (by assumption) ?_
      rotate_left
      · intro w hSw; (try dsimp only at hSw); first | (go_simp; done) | (go_simp; with_reducible rfl)
      simp [Act.put]
      refine wpAnyH_take (i := 38) (v := ?_) rfl (by kernel_rfl) (by kernel_rfl) (by kernel_rfl) (fun _ _ _ h => h) (Or.inl ⟨by rfl, ?_⟩) (by assumption) ?_
      rotate_left
      · intro w hSw; (try dsimp only at hSw); first | (go_simp; done) | (go_simp; with_reducible rfl)
      simp [Act.put]
      refine wpAnyH_ready (rs := [39]) (by kernel_rfl) (by simp) ?_
      refine AllReadyH.cons rfl (fun K hK => ?_) AllReadyH.nil
      go_simp
      refine Calls.mono (D10.out ra rc sa sc _ HRw15.out HYw15.out) ?_
      rintro e w16 ⟨rfl, hb⟩
      have GSw16 := GSw15.below hb
      have HBw16 : Hid (Below w.heap.size w w16) := HBw15.out.trans (hb.mono HBw15.out.size)
      have HXw16 : Hid (ClsAt w16 va X) := HXw15.out.below hb
      have HRw16 : Hid (ClsAt w16 ra X) := HRw15.out.below hb
      have HYw16 : Hid (ClsAt w16 sa Y) := HYw15.out.below hb
      clear hb HXw15 HRw15 HYw15
      go_wp2_with fail
      refine hK.out _ _ ?_ (fun hHeld => ?_)
      · (try dsimp only)
        exact GSw16
      clear hK K
      try simp [Act.put]
      refine wpAnyH_take (i := 40) (v := ?_) rfl (by kernel_rfl) (by kernel_rfl) (by kernel_rfl) (fun _ _ _ h => h) (Or.inl ⟨by rfl, ?_⟩) (by assumption) ?_
      rotate_left
      · intro w hSw; (try dsimp only at hSw); first | (go_simp; done) | (go_simp; with_reducible rfl)
      simp [Act.put]
      refine wpAnyH_take (i := 41) (v := ?_) rfl (by kernel_rfl) (by kernel_rfl) (by kernel_rfl) (fun _ _ _ h => h) (Or.inl ⟨by rfl, ?_⟩) (by assumption) ?_
      rotate_left
      · intro w hSw; (try dsimp only at hSw); first | (go_simp; done) | (go_simp; with_reducible rfl)
      simp [Act.put]
      refine wpAnyH_take (i := 42) (v := ?_) rfl (by kernel_rfl) (by kernel_rfl) (by kernel_rfl) (fun _ _ _ h => h) (Or.inl ⟨by rfl, ?_⟩) (by assumption) ?_
      rotate_left
      · intro w hSw; (try dsimp only at hSw); first | (go_simp; done) | (go_simp; with_reducible rfl)
      simp [Act.put]
      refine wpAnyH_take (i := 43) (v := ?_) rfl (by kernel_rfl) (by kernel_rfl) (by kernel_rfl) (fun _ _ _ h => h) (Or.inl ⟨by rfl, ?_⟩) (by assumption) ?_
      rotate_left
      · intro w hSw; (try dsimp only at hSw); first | (go_simp; done) | (go_simp; with_reducible rfl)
      simp [Act.put]
      refine wpAnyH_done (by kernel_rfl) ?_ _
      refine NoPanic.normal ?_
      go_wp2_with fail
      go_ret
      exact ⟨rfl, HBw16.out⟩
    · obtain ⟨e1, e2⟩ := LKr.out.2.1 hE hF
      subst hE
      subst e1
      subst e2
      have t1 : (LE == 0) = false := beq_eq_false_iff_ne.2 hF
      have t2 : decide (LE = 0) = false := decide_eq_false hF
      go_upto_region 8 with fail
      try rw [hW5]
      clear hW5 p0 p1 p2 p3
      go_wp2_with fail
      have GSw0 : GoodS w w1 w3 w4 a a' va ra sa n c n' c' m vc rc m' sc W5.drew := G5.out
      have HBw0 : Hid (Below w.heap.size w W5.drew) := HB5.out.drew
      have HXw0 : Hid (ClsAt W5.drew va X) := HX5.out
      have HRw0 : Hid (ClsAt W5.drew ra X) := HR5.out
      have HYw0 : Hid (ClsAt W5.drew sa Y) := HY5.out
      refine wp_region_noPanic ?_
      refine wp_region_held_drew (S := fun w'' => w''.cell? ⟨w.heap.size, 0, none⟩ = some (.slice a n c) ∧ w''.cell? ⟨w.heap.size + 1, 0, none⟩ = some (.slice a' n' c') ∧ w''.cell? ⟨w1.heap.size, 0, none⟩ = some (.slice va m vc) ∧ w''.cell? ⟨w3.heap.size, 0, none⟩ = some (.slice ra m rc) ∧ w''.cell? ⟨w4.heap.size, 0, none⟩ = some (.slice sa m' sc)) (by kernel_rfl) (by exact GSw0) (fun hHeld => ?_)
      refine wpAnyH_ready (rs := [0]) (by kernel_rfl) (by simp) ?_
      refine AllReadyH.cons rfl (fun K hK => ?_) AllReadyH.nil
      go_simp
      refine Calls.mono (DC.out _) ?_
      rintro e w10 ⟨rfl, hb⟩
      have GSw10 := GSw0.below hb
      have HBw10 : Hid (Below w.heap.size w w10) := HBw0.out.trans (hb.mono HBw0.out.size)
      have HXw10 : Hid (ClsAt w10 va X) := HXw0.out.below hb
      have HRw10 : Hid (ClsAt w10 ra X) := HRw0.out.below hb
      have HYw10 : Hid (ClsAt w10 sa Y) := HYw0.out.below hb
      clear hb HXw0 HRw0 HYw0
      go_wp2_with fail
      refine hK.out _ _ ?_ (fun hHeld => ?_)
      · (try dsimp only)
        exact GSw10
      clear hK K
      try simp
      refine wpAnyH_take (i := 1) (v := ?_) rfl (by kernel_rfl) (by kernel_rfl) (by kernel_rfl) (fun _ _ _ h => h) (Or.inl ⟨by rfl, ?_⟩) (by assumption) ?_
      rotate_left
      · intro w hSw; (try dsimp only at hSw); first | (go_simp; done) | (go_simp; with_reducible rfl)
      simp [Act.put]
      refine wpAnyH_take (i := 2) (v := ?_) rfl (by kernel_rfl) (by kernel_rfl) (by kernel_rfl) (fun _ _ _ h => h) (Or.inl ⟨by rfl, ?_⟩) (by assumption) ?_
      rotate_left
      · intro w hSw; (try dsimp only at hSw); first | (go_simp; done) | (go_simp; with_reducible rfl)
      simp [Act.put]
      refine wpAnyH_take (i := 4) (v := ?_) rfl (by kernel_rfl) (by kernel_rfl) (by kernel_rfl) (fun _ _ _ h => h) (Or.inl ⟨by rfl, ?_⟩) (by assumption) ?_
      rotate_left
      · intro w hSw; (try dsimp only at hSw); first | (go_simp; done) | (go_simp; with_reducible rfl)
      simp [Act.put]
      refine wpAnyH_ready (rs := [3]) (by kernel_rfl) (by simp) ?_
      refine AllReadyH.cons rfl (fun K hK => ?_) AllReadyH.nil
      go_simp
      refine Calls.mono (D5.out _ (HS.out.below HBw10.out)) ?_
      rintro e w11 ⟨rfl, hb⟩
      have GSw11 := GSw10.below hb
      have HBw11 : Hid (Below w.heap.size w w11) := HBw10.out.trans (hb.mono HBw10.out.size)
      have HXw11 : Hid (ClsAt w11 va X) := HXw10.out.below hb
      have HRw11 : Hid (ClsAt w11 ra X) := HRw10.out.below hb
      have HYw11 : Hid (ClsAt w11 sa Y) := HYw10.out.below hb
      clear hb HXw10 HRw10 HYw10
      go_wp2_with fail
      refine hK.out _ _ ?_ (fun hHeld => ?_)
      · (try dsimp only)
        exact GSw11
      clear hK K
      try simp [Act.put]
      refine wpAnyH_ready (rs := [5]) (by kernel_rfl) (by simp) ?_
      refine AllReadyH.cons rfl (fun K hK => ?_) AllReadyH.nil
      go_simp
      refine Calls.mono (D6.out _ (HS.out.below HBw11.out)) ?_
      rintro e w12 ⟨rfl, hb⟩
      have GSw12 := GSw11.below hb
      have HBw12 : Hid (Below w.heap.size w w12) := HBw11.out.trans (hb.mono HBw11.out.size)
      have HXw12 : Hid (ClsAt w12 va X) := HXw11.out.below hb
      have HRw12 : Hid (ClsAt w12 ra X) := HRw11.out.below hb
      have HYw12 : Hid (ClsAt w12 sa Y) := HYw11.out.below hb
      clear hb HXw11 HRw11 HYw11
      go_wp2_with fail
      refine hK.out _ _ ?_ (fun hHeld => ?_)
      · (try dsimp only)
        exact GSw12
      clear hK K
      try simp [Act.put]
      refine wpAnyH_take (i := 6) (v := ?_) rfl (by kernel_rfl) (by kernel_rfl) (by kernel_rfl) (fun _ _ _ h => h) (Or.inl ⟨by rfl, ?_⟩) (by assumption) ?_
      rotate_left
      · intro w hSw; (try dsimp only at hSw); first | (go_simp; done) | (go_simp; with_reducible rfl)
      simp [Act.put]
      refine wpAnyH_take (i := 7) (v := ?_) rfl (by kernel_rfl) (by kernel_rfl) (by kernel_rfl) (fun _ _ _ h => h) (Or.inl ⟨by rfl, ?_⟩) (by assumption) ?_
      rotate_left
      · intro w hSw; (try dsimp only at hSw); first | (go_simp; done) | (go_simp; with_reducible rfl)
      simp [Act.put]
      refine wpAnyH_take (i := 8) (v := ?_) rfl (by kernel_rfl) (by kernel_rfl) (by kernel_rfl) (fun _ _ _ h => h) (Or.inl ⟨by rfl, ?_⟩) (by assumption) ?_
      rotate_left
      · intro w hSw; (try dsimp only at hSw); first | (go_simp; done) | (go_simp; with_reducible rfl)
      simp [Act.put]
      refine wpAnyH_take (i := 9) (v := ?_) rfl (by kernel_rfl) (by kernel_rfl) (by kernel_rfl) (fun _ _ _ h => h) (Or.inl ⟨by rfl, ?_⟩) (by assumption) ?_
      rotate_left
      · intro w hSw; (try dsimp only at hSw); first | (go_simp; done) | (go_simp; with_reducible rfl)
      simp [Act.put]
      refine wpAnyH_take (i := 10) (v := ?_) rfl (by kernel_rfl) (by kernel_rfl) (by kernel_rfl) (fun _ _ _ h => h) (Or.inl ⟨by rfl, ?_⟩) (by assumption) ?_
      rotate_left
      · intro w hSw; (try dsimp only at hSw); first | (go_simp; done) | (go_simp; with_reducible rfl)
      simp [Act.put]
      refine wpAnyH_take (i := 12) (v := ?_) rfl (by kernel_rfl) (by kernel_rfl) (by kernel_rfl) (fun _ _ _ h => h) (Or.inl ⟨by rfl, ?_⟩) (by assumption) ?_
      rotate_left
      · intro w hSw; (try dsimp only at hSw); first | (go_simp; done) | (go_simp; with_reducible rfl)
      simp [Act.put]
      refine wpAnyH_take (i := 13) (v := ?_) rfl (by kernel_rfl) (by kernel_rfl) (by kernel_rfl) (fun _ _ _ h => h) (Or.inl ⟨by rfl, ?_⟩) (by assumption) ?_
      rotate_left
      · intro w hSw; (try dsimp only at hSw); first | (go_simp; done) | (go_simp; with_reducible rfl)
      simp [Act.put]
      refine wpAnyH_ready (rs := [11]) (by kernel_rfl) (by simp) ?_
      refine AllReadyH.cons rfl (fun K hK => ?_) AllReadyH.nil
      go_simp
      refine Calls.mono (D7.out _ (HS.out.below HBw12.out) (HS'.out.below HBw12.out)) ?_
      rintro e w13 ⟨rfl, hb⟩
      have GSw13 := GSw12.below hb
      have HBw13 : Hid (Below w.heap.size w w13) := HBw12.out.trans (hb.mono HBw12.out.size)
      have HXw13 : Hid (ClsAt w13 va X) := HXw12.out.below hb
      have HRw13 : Hid (ClsAt w13 ra X) := HRw12.out.below hb
      have HYw13 : Hid (ClsAt w13 sa Y) := HYw12.out.below hb
      clear hb HXw12 HRw12 HYw12
      go_wp2_with fail
      refine hK.out _ _ ?_ (fun hHeld => ?_)
      · (try dsimp only)
        exact GSw13
      clear hK K
      try simp [Act.put]
      refine wpAnyH_ready (rs := [14]) (by kernel_rfl) (by simp) ?_
      refine AllReadyH.cons rfl (fun K hK => ?_) AllReadyH.nil
      go_simp
      refine Calls.mono (D8.out _ (HS.out.below HBw13.out) (HS'.out.below HBw13.out)) ?_
      rintro e w14 ⟨rfl, hb⟩
      have GSw14 := GSw13.below hb
      have HBw14 : Hid (Below w.heap.size w w14) := HBw13.out.trans (hb.mono HBw13.out.size)
      have HXw14 : Hid (ClsAt w14 va X) := HXw13.out.below hb
      have HRw14 : Hid (ClsAt w14 ra X) := HRw13.out.below hb
      have HYw14 : Hid (ClsAt w14 sa Y) := HYw13.out.below hb
      clear hb HXw13 HRw13 HYw13
      go_wp2_with fail
      refine hK.out _ _ ?_ (fun hHeld => ?_)
      · (try dsimp only)
        exact GSw14
      clear hK K
      try simp [Act.put]
      refine wpAnyH_take (i := 15) (v := ?_) rfl (by kernel_rfl) (by kernel_rfl) (by kernel_rfl) (fun _ _ _ h => h) (Or.inl ⟨by rfl, ?_⟩) (by assumption) ?_
      rotate_left
      · intro w hSw; (try dsimp only at hSw); first | (go_simp; done) | (go_simp; with_reducible rfl)
      simp [Act.put]
      refine wpAnyH_take (i := 16) (v := ?_) rfl (by kernel_rfl) (by kernel_rfl) (by kernel_rfl) (fun _ _ _ h => h) (Or.inl ⟨by rfl, ?_⟩) (by assumption) ?_
      rotate_left
      · intro w hSw; (try dsimp only at hSw); first | (go_simp; done) | (go_simp; with_reducible rfl)
      simp [Act.put]
      refine wpAnyH_take (i := 17) (v := ?_) rfl (by kernel_rfl) (by kernel_rfl) (by kernel_rfl) (fun _ _ _ h => h) (Or.inl ⟨by rfl, ?_⟩) (by assumption) ?_
      rotate_left
      · intro w hSw; (try dsimp only at hSw); first | (go_simp; done) | (go_simp; with_reducible rfl)
      simp [Act.put]
      refine wpAnyH_take (i := 18) (v := ?_) rfl (by kernel_rfl) (by kernel_rfl) (by kernel_rfl) (fun _ _ _ h => h) (Or.inl ⟨by rfl, ?_⟩) (by assumption) ?_
      rotate_left
      · intro w hSw; (try dsimp only at hSw); first | (go_simp; done) | (go_simp; with_reducible rfl)
      simp [Act.put]
      refine wpAnyH_take (i := 19) (v := ?_) rfl (by kernel_rfl) (by kernel_rfl) (by kernel_rfl) (fun _ _ _ h => h) (Or.inl ⟨by rfl, ?_⟩) (by assumption) ?_
      rotate_left
      · intro w hSw; (try dsimp only at hSw); first | (go_simp; done) | (go_simp; with_reducible rfl)
      simp [Act.put]
      refine wpAnyH_take (i := 20) (v := ?_) rfl (by kernel_rfl) (by kernel_rfl) (by kernel_rfl) (fun _ _ _ h => h) (Or.inl ⟨by rfl, ?_⟩) (by assumption) ?_
      rotate_left
      · intro w hSw; (try dsimp only at hSw); first | (go_simp; done) | (go_simp; with_reducible rfl)
      simp [Act.put]
      refine wpAnyH_take (i := 21) (v := ?_) rfl (by kernel_rfl) (by kernel_rfl) (by kernel_rfl) (fun _ _ _ h => h) (Or.inl ⟨by rfl, ?_⟩) (by assumption) ?_
      rotate_left
      · intro w hSw; (try dsimp only at hSw); first | (go_simp; done) | (go_simp; with_reducible rfl)
      simp [Act.put]
      refine wpAnyH_take (i := 22) (v := ?_) rfl (by kernel_rfl) (by kernel_rfl) (by kernel_rfl) (fun _ _ _ h => h) (Or.inl ⟨by rfl, ?_⟩) (by assumption) ?_
      rotate_left
      · intro w hSw; (try dsimp only at hSw); first | (go_simp; done) | (go_simp; with_reducible rfl)
      simp [Act.put]
      refine wpAnyH_take (i := 23) (v := ?_) rfl (by kernel_rfl) (by kernel_rfl) (by kernel_rfl) (fun _ _ _ h => h) (Or.inl ⟨by rfl, ?_⟩) (by assumption) ?_
      rotate_left
      · intro w hSw; (try dsimp only at hSw); first | (go_simp; done) | (go_simp; with_reducible rfl)
      simp [Act.put]
      refine wpAnyH_take (i := 24) (v := ?_) rfl (by kernel_rfl) (by kernel_rfl) (by kernel_rfl) (fun _ _ _ h => h) (Or.inl ⟨by rfl, ?_⟩) (by assumption) ?_
      rotate_left
      · intro w hSw; (try dsimp only at hSw); first | (go_simp; done) | (go_simp; with_reducible rfl)
      simp [Act.put]
      refine wpAnyH_ready (rs := [25]) (by kernel_rfl) (by simp) ?_
      refine AllReadyH.cons rfl (fun K hK => ?_) AllReadyH.nil
      go_simp
      refine Calls.mono (D9.out va vc ra rc _ HXw14.out HRw14.out) ?_
      rintro e w15 ⟨rfl, hb⟩
      have GSw15 := GSw14.below hb
      have HBw15 : Hid (Below w.heap.size w w15) := HBw14.out.trans (hb.mono HBw14.out.size)
      have HXw15 : Hid (ClsAt w15 va X) := HXw14.out.below hb
      have HRw15 : Hid (ClsAt w15 ra X) := HRw14.out.below hb
      have HYw15 : Hid (ClsAt w15 sa Y) := HYw14.out.below hb
      clear hb HXw14 HRw14 HYw14
      go_wp2_with fail
      refine hK.out _ _ ?_ (fun hHeld => ?_)
      · (try dsimp only)
        exact GSw15
      clear hK K
      try simp [Act.put]
      refine wpAnyH_take (i := 26) (v := ?_) rfl (by kernel_rfl) (by kernel_rfl) (by kernel_rfl) (fun _ _ _ h => h) (Or.inl ⟨by rfl, ?_⟩) (by assumption) ?_
      rotate_left
      · intro w hSw; (try dsimp only at hSw); first | (go_simp; done) | (go_simp; with_reducible rfl)
      simp [Act.put]
      refine wpAnyH_take (i := 27) (v := ?_) rfl (by kernel_rfl) (by kernel_rfl) (by kernel_rfl) (fun _ _ _ h => h) (Or.inl ⟨by rfl, ?_⟩) (by assumption) ?_
      rotate_left
      · intro w hSw; (try dsimp only at hSw); first | (go_simp; done) | (go_simp; with_reducible rfl)
      simp [Act.put]
      refine wpAnyH_take (i := 28) (v := ?_) rfl (by kernel_rfl) (by kernel_rfl) (by kernel_rfl) (fun _ _ _ h => h) (Or.inl ⟨by rfl, ?_⟩) (by assumption) ?_
      rotate_left
      · intro w hSw; (try dsimp only at hSw); first | (go_simp; done) | (go_simp; with_reducible rfl)
      simp [Act.put]
      refine wpAnyH_take (i := 29) (v := ?_) rfl (by kernel_rfl) (by kernel_rfl) (by kernel_rfl) (fun _ _ _ h => h) (Or.inl ⟨by rfl, ?_⟩) (by assumption) ?_
      rotate_left
      · intro w hSw; (try dsimp only at hSw); first | (go_simp; done) | (go_simp; with_reducible rfl)
      simp [Act.put]
      refine wpAnyH_take (i := 30) (v := ?_) rfl (by kernel_rfl) (by kernel_rfl) (by kernel_rfl) (fun _ _ _ h => h) (Or.inl ⟨by rfl, ?_⟩) (by assumption) ?_
      rotate_left
      · intro w hSw; (try dsimp only at hSw); first | (go_simp; done) | (go_simp; with_reducible rfl)
      simp [Act.put]
      refine wpAnyH_take (i := 31) (v := ?_) rfl (by kernel_rfl) (by kernel_rfl) (by kernel_rfl) (fun _ _ _ h => h) (Or.inl ⟨by rfl, ?_⟩) (by assumption) ?_
      rotate_left
      · intro w hSw; (try dsimp only at hSw); first | (go_simp; done) | (go_simp; with_reducible rfl)
      simp [Act.put]
      refine wpAnyH_take (i := 32) (v := ?_) rfl (by kernel_rfl) (by kernel_rfl) (by kernel_rfl) (fun _ _ _ h => h) (Or.inl ⟨by rfl, ?_⟩) (by assumption) ?_
      rotate_left
      · intro w hSw; (try dsimp only at hSw); first | (go_simp; done) | (go_simp; with_reducible rfl)
      simp [Act.put]
      refine wpAnyH_take (i := 33) (v := ?_) rfl (by kernel_rfl) (by kernel_rfl) (by kernel_rfl) (fun _ _ _ h => h) (Or.inl ⟨by rfl, ?_⟩) (by assumption) ?_
      rotate_left
      · intro w hSw; (try dsimp only at hSw); first | (go_simp; done) | (go_simp; with_reducible rfl)
      simp [Act.put]
      refine wpAnyH_take (i := 34) (v := ?_) rfl (by kernel_rfl) (by kernel_rfl) (by kernel_rfl) (fun _ _ _ h => h) (Or.inl ⟨by rfl, ?_⟩) (by assumption) ?_
      rotate_left
      · intro w hSw; (try dsimp only at hSw); first | (go_simp; done) | (go_simp; with_reducible rfl)
      simp [Act.put]
      refine wpAnyH_take (i := 35) (v := ?_) rfl (by kernel_rfl) (by kernel_rfl) (by kernel_rfl) (fun _ _ _ h => h) (Or.inl ⟨by rfl, ?_⟩) (by assumption) ?_
      rotate_left
      · intro w hSw; (try dsimp only at hSw); first | (go_simp; done) | (go_simp; with_reducible rfl)
      simp [Act.put]
      refine wpAnyH_take (i := 36) (v := ?_) rfl (by kernel_rfl) (by kernel_rfl) (by kernel_rfl) (fun _ _ _ h => h) (Or.inl ⟨by rfl, ?_⟩) (by assumption) ?_
      rotate_left
      · intro w hSw; (try dsimp only at hSw); first | (go_simp; done) | (go_simp; with_reducible rfl)
      simp [Act.put]
      refine wpAnyH_take (i := 37) (v := undef) rfl (by kernel_rfl) (by kernel_rfl) (by kernel_rfl) (fun _ _ _ h => h) (Or.inr ⟨by rfl, rfl⟩) (by assumption) ?_
      simp [Act.put]
      refine wpAnyH_take (i := 38) (v := undef) rfl (by kernel_rfl) (by kernel_rfl) (by kernel_rfl) (fun _ _ _ h => h) (Or.inr ⟨by rfl, rfl⟩) (by assumption) ?_
      simp [Act.put]
      refine wpAnyH_take (i := 39) (v := undef) rfl (by kernel_rfl) (by kernel_rfl) (by kernel_rfl) (fun _ _ _ h => h) (Or.inr ⟨by rfl, rfl⟩) (by assumption) ?_
      simp [Act.put]
      refine wpAnyH_take (i := 40) (v := ?_) rfl (by kernel_rfl) (by kernel_rfl) (by kernel_rfl) (fun _ _ _ h => h) (Or.inl ⟨by rfl, ?_⟩) (by assumption) ?_
      rotate_left
      · intro w hSw; (try dsimp only at hSw); first | (go_simp; done) | (go_simp; with_reducible rfl)
      simp [Act.put]
      refine wpAnyH_take (i := 41) (v := ?_) rfl (by kernel_rfl) (by kernel_rfl) (by kernel_rfl) (fun _ _ _ h => h) (Or.inl ⟨by rfl, ?_⟩) (by assumption) ?_
      rotate_left
      · intro w hSw; (try dsimp only at hSw); first | (go_simp; done) | (go_simp; with_reducible rfl)
      simp [Act.put]
      refine wpAnyH_take (i := 42) (v := ?_) rfl (by kernel_rfl) (by kernel_rfl) (by kernel_rfl) (fun _ _ _ h => h) (Or.inl ⟨by rfl, ?_⟩) (by assumption) ?_
      rotate_left
      · intro w hSw; (try dsimp only at hSw); first | (go_simp; done) | (go_simp; with_reducible rfl)
      simp [Act.put]
      refine wpAnyH_take (i := 43) (v := ?_) rfl (by kernel_rfl) (by kernel_rfl) (by kernel_rfl) (fun _ _ _ h => h) (Or.inl ⟨by rfl, ?_⟩) (by assumption) ?_
      rotate_left
      · intro w hSw; (try dsimp only at hSw); first | (go_simp; done) | (go_simp; with_reducible rfl)
      simp [Act.put]
      refine wpAnyH_done (by kernel_rfl) ?_ _
      refine NoPanic.normal ?_
      go_wp2_with fail
      go_ret
      exact ⟨rfl, HBw15.out⟩
  · obtain ⟨e1, e2⟩ := LKr.out.1 hE
    subst e1
    subst e2
    have t1 : (LE == 0) = false := beq_eq_false_iff_ne.2 hE
    have t2 : decide (LE = 0) = false := decide_eq_false hE
    go_upto_region 8 with fail
    try rw [hW5]
    clear hW5 p0 p1 p2 p3
    go_wp2_with fail
    have GSw0 : GoodS w w1 w3 w4 a a' va ra sa n c n' c' m vc rc m' sc W5.drew := G5.out
    have HBw0 : Hid (Below w.heap.size w W5.drew) := HB5.out.drew
    have HXw0 : Hid (ClsAt W5.drew va X) := HX5.out
    have HRw0 : Hid (ClsAt W5.drew ra X) := HR5.out
    have HYw0 : Hid (ClsAt W5.drew sa Y) := HY5.out
    refine wp_region_noPanic ?_
    refine wp_region_held_drew (S := fun w'' => w''.cell? ⟨w.heap.size, 0, none⟩ = some (.slice a n c) ∧ w''.cell? ⟨w.heap.size + 1, 0, none⟩ = some (.slice a' n' c') ∧ w''.cell? ⟨w1.heap.size, 0, none⟩ = some (.slice va m vc) ∧ w''.cell? ⟨w3.heap.size, 0, none⟩ = some (.slice ra m rc) ∧ w''.cell? ⟨w4.heap.size, 0, none⟩ = some (.slice sa m' sc)) (by kernel_rfl) (by exact GSw0) (fun hHeld => ?_)
    refine wpAnyH_ready (rs := [0]) (by kernel_rfl) (by simp) ?_
    refine AllReadyH.cons rfl (fun K hK => ?_) AllReadyH.nil
    go_simp
    refine Calls.mono (DC.out _) ?_
    rintro e w10 ⟨rfl, hb⟩
    have GSw10 := GSw0.below hb
    have HBw10 : Hid (Below w.heap.size w w10) := HBw0.out.trans (hb.mono HBw0.out.size)
    have HXw10 : Hid (ClsAt w10 va X) := HXw0.out.below hb
    have HRw10 : Hid (ClsAt w10 ra X) := HRw0.out.below hb
    have HYw10 : Hid (ClsAt w10 sa Y) := HYw0.out.below hb
    clear hb HXw0 HRw0 HYw0
    go_wp2_with fail
    refine hK.out _ _ ?_ (fun hHeld => ?_)
    · (try dsimp only)
      exact GSw10
    clear hK K
    try simp
    refine wpAnyH_take (i := 1) (v := ?_) rfl (by kernel_rfl) (by kernel_rfl) (by kernel_rfl) (fun _ _ _ h => h) (Or.inl ⟨by rfl, ?_⟩) (by assumption) ?_
    rotate_left
    · intro w hSw; (try dsimp only at hSw); first | (go_simp; done) | (go_simp; with_reducible rfl)
    simp [Act.put]
    refine wpAnyH_take (i := 2) (v := ?_) rfl (by kernel_rfl) (by kernel_rfl) (by kernel_rfl) (fun _ _ _ h => h) (Or.inl ⟨by rfl, ?_⟩) (by assumption) ?_
    rotate_left
    · intro w hSw; (try dsimp only at hSw); first | (go_simp; done) | (go_simp; with_reducible rfl)
    simp [Act.put]
    refine wpAnyH_take (i := 4) (v := ?_) rfl (by kernel_rfl) (by kernel_rfl) (by kernel_rfl) (fun _ _ _ h => h) (Or.inl ⟨by rfl, ?_⟩) (by assumption) ?_
    rotate_left
    · intro w hSw; (try dsimp only at hSw); first | (go_simp; done) | (go_simp; with_reducible rfl)
    simp [Act.put]
    refine wpAnyH_ready (rs := [3]) (by kernel_rfl) (by simp) ?_
    refine AllReadyH.cons rfl (fun K hK => ?_) AllReadyH.nil
    go_simp
    refine Calls.mono (D5.out _ (HS.out.below HBw10.out)) ?_
    rintro e w11 ⟨rfl, hb⟩
    have GSw11 := GSw10.below hb
    have HBw11 : Hid (Below w.heap.size w w11) := HBw10.out.trans (hb.mono HBw10.out.size)
    have HXw11 : Hid (ClsAt w11 va X) := HXw10.out.below hb
    have HRw11 : Hid (ClsAt w11 ra X) := HRw10.out.below hb
    have HYw11 : Hid (ClsAt w11 sa Y) := HYw10.out.below hb
    clear hb HXw10 HRw10 HYw10
    go_wp2_with fail
    refine hK.out _ _ ?_ (fun hHeld => ?_)
    · (try dsimp only)
      exact GSw11
    clear hK K
    try simp [Act.put]
    refine wpAnyH_ready (rs := [5]) (by kernel_rfl) (by simp) ?_
    refine AllReadyH.cons rfl (fun K hK => ?_) AllReadyH.nil
    go_simp
    refine Calls.mono (D6.out _ (HS.out.below HBw11.out)) ?_
    rintro e w12 ⟨rfl, hb⟩
    have GSw12 := GSw11.below hb
    have HBw12 : Hid (Below w.heap.size w w12) := HBw11.out.trans (hb.mono HBw11.out.size)
    have HXw12 : Hid (ClsAt w12 va X) := HXw11.out.below hb
    have HRw12 : Hid (ClsAt w12 ra X) := HRw11.out.below hb
    have HYw12 : Hid (ClsAt w12 sa Y) := HYw11.out.below hb
    clear hb HXw11 HRw11 HYw11
    go_wp2_with fail
    refine hK.out _ _ ?_ (fun hHeld => ?_)
    · (try dsimp only)
      exact GSw12
    clear hK K
    try simp [Act.put]
    refine wpAnyH_take (i := 6) (v := ?_) rfl (by kernel_rfl) (by kernel_rfl) (by kernel_rfl) (fun _ _ _ h => h) (Or.inl ⟨by rfl, ?_⟩) (by assumption) ?_
    rotate_left
    · intro w hSw; (try dsimp only at hSw); first | (go_simp; done) | (go_simp; with_reducible rfl)
    simp [Act.put]
    refine wpAnyH_take (i := 7) (v := ?_) rfl (by kernel_rfl) (by kernel_rfl) (by kernel_rfl) (fun _ _ _ h => h) (Or.inl ⟨by rfl, ?_⟩) (by assumption) ?_
    rotate_left
    · intro w hSw; (try dsimp only at hSw); first | (go_simp; done) | (go_simp; with_reducible rfl)
    simp [Act.put]
    refine wpAnyH_take (i := 8) (v := ?_) rfl (by kernel_rfl) (by kernel_rfl) (by kernel_rfl) (fun _ _ _ h => h) (Or.inl ⟨by rfl, ?_⟩) (by assumption) ?_
    rotate_left
    · intro w hSw; (try dsimp only at hSw); first | (go_simp; done) | (go_simp; with_reducible rfl)
    simp [Act.put]
    refine wpAnyH_take (i := 9) (v := ?_) rfl (by kernel_rfl) (by kernel_rfl) (by kernel_rfl) (fun _ _ _ h => h) (Or.inl ⟨by rfl, ?_⟩) (by assumption) ?_
    rotate_left
    · intro w hSw; (try dsimp only at hSw); first | (go_simp; done) | (go_simp; with_reducible rfl)
    simp [Act.put]
    refine wpAnyH_take (i := 10) (v := ?_) rfl (by kernel_rfl) (by kernel_rfl) (by kernel_rfl) (fun _ _ _ h => h) (Or.inl ⟨by rfl, ?_⟩) (by assumption) ?_
    rotate_left
    · intro w hSw; (try dsimp only at hSw); first | (go_simp; done) | (go_simp; with_reducible rfl)
    simp [Act.put]
    refine wpAnyH_take (i := 12) (v := ?_) rfl (by kernel_rfl) (by kernel_rfl) (by kernel_rfl) (fun _ _ _ h => h) (Or.inl ⟨by rfl, ?_⟩) (by assumption) ?_
    rotate_left
    · intro w hSw; (try dsimp only at hSw); first | (go_simp; done) | (go_simp; with_reducible rfl)
    simp [Act.put]
    refine wpAnyH_take (i := 13) (v := ?_) rfl (by kernel_rfl) (by kernel_rfl) (by kernel_rfl) (fun _ _ _ h => h) (Or.inl ⟨by rfl, ?_⟩) (by assumption) ?_
    rotate_left
    · intro w hSw; (try dsimp only at hSw); first | (go_simp; done) | (go_simp; with_reducible rfl)
    simp [Act.put]
    refine wpAnyH_ready (rs := [11]) (by kernel_rfl) (by simp) ?_
    refine AllReadyH.cons rfl (fun K hK => ?_) AllReadyH.nil
    go_simp
    refine Calls.mono (D7.out _ (HS.out.below HBw12.out) (HS'.out.below HBw12.out)) ?_
    rintro e w13 ⟨rfl, hb⟩
    have GSw13 := GSw12.below hb
    have HBw13 : Hid (Below w.heap.size w w13) := HBw12.out.trans (hb.mono HBw12.out.size)
    have HXw13 : Hid (ClsAt w13 va X) := HXw12.out.below hb
    have HRw13 : Hid (ClsAt w13 ra X) := HRw12.out.below hb
    have HYw13 : Hid (ClsAt w13 sa Y) := HYw12.out.below hb
    clear hb HXw12 HRw12 HYw12
    go_wp2_with fail
    refine hK.out _ _ ?_ (fun hHeld => ?_)
    · (try dsimp only)
      exact GSw13
    clear hK K
    try simp [Act.put]
    refine wpAnyH_ready (rs := [14]) (by kernel_rfl) (by simp) ?_
    refine AllReadyH.cons rfl (fun K hK => ?_) AllReadyH.nil
    go_simp
    refine Calls.mono (D8.out _ (HS.out.below HBw13.out) (HS'.out.below HBw13.out)) ?_
    rintro e w14 ⟨rfl, hb⟩
    have GSw14 := GSw13.below hb
    have HBw14 : Hid (Below w.heap.size w w14) := HBw13.out.trans (hb.mono HBw13.out.size)
    have HXw14 : Hid (ClsAt w14 va X) := HXw13.out.below hb
    have HRw14 : Hid (ClsAt w14 ra X) := HRw13.out.below hb
    have HYw14 : Hid (ClsAt w14 sa Y) := HYw13.out.below hb
    clear hb HXw13 HRw13 HYw13
    go_wp2_with fail
    refine hK.out _ _ ?_ (fun hHeld => ?_)
    · (try dsimp only)
      exact GSw14
    clear hK K
    try simp [Act.put]
    refine wpAnyH_take (i := 15) (v := ?_) rfl (by kernel_rfl) (by kernel_rfl) (by kernel_rfl) (fun _ _ _ h => h) (Or.inl ⟨by rfl, ?_⟩) (by assumption) ?_
    rotate_left
    · intro w hSw; (try dsimp only at hSw); first | (go_simp; done) | (go_simp; with_reducible rfl)
    simp [Act.put]
    refine wpAnyH_take (i := 16) (v := ?_) rfl (by kernel_rfl) (by kernel_rfl) (by kernel_rfl) (fun _ _ _ h => h) (Or.inl ⟨by rfl, ?_⟩) (by assumption) ?_
    rotate_left
    · intro w hSw; (try dsimp only at hSw); first | (go_simp; done) | (go_simp; with_reducible rfl)
    simp [Act.put]
    refine wpAnyH_take (i := 17) (v := ?_) rfl (by kernel_rfl) (by kernel_rfl) (by kernel_rfl) (fun _ _ _ h => h) (Or.inl ⟨by rfl, ?_⟩) (by assumption) ?_
    rotate_left
    · intro w hSw; (try dsimp only at hSw); first | (go_simp; done) | (go_simp; with_reducible rfl)
    simp [Act.put]
    refine wpAnyH_take (i := 18) (v := ?_) rfl (by kernel_rfl) (by kernel_rfl) (by kernel_rfl) (fun _ _ _ h => h) (Or.inl ⟨by rfl, ?_⟩) (by assumption) ?_
    rotate_left
    · intro w hSw; (try dsimp only at hSw); first | (go_simp; done) | (go_simp; with_reducible rfl)
    simp [Act.put]
    refine wpAnyH_take (i := 19) (v := ?_) rfl (by kernel_rfl) (by kernel_rfl) (by kernel_rfl) (fun _ _ _ h => h) (Or.inl ⟨by rfl, ?_⟩) (by assumption) ?_
    rotate_left
    · intro w hSw; (try dsimp only at hSw); first | (go_simp; done) | (go_simp; with_reducible rfl)
    simp [Act.put]
    refine wpAnyH_take (i := 20) (v := ?_) rfl (by kernel_rfl) (by kernel_rfl) (by kernel_rfl) (fun _ _ _ h => h) (Or.inl ⟨by rfl, ?_⟩) (by assumption) ?_
    rotate_left
    · intro w hSw; (try dsimp only at hSw); first | (go_simp; done) | (go_simp; with_reducible rfl)
    simp [Act.put]
    refine wpAnyH_take (i := 21) (v := ?_) rfl (by kernel_rfl) (by kernel_rfl) (by kernel_rfl) (fun _ _ _ h => h) (Or.inl ⟨by rfl, ?_⟩) (by assumption) ?_
    rotate_left
    · intro w hSw; (try dsimp only at hSw); first | (go_simp; done) | (go_simp; with_reducible rfl)
    simp [Act.put]
    refine wpAnyH_take (i := 22) (v := ?_) rfl (by kernel_rfl) (by kernel_rfl) (by kernel_rfl) (fun _ _ _ h => h) (Or.inl ⟨by rfl, ?_⟩) (by assumption) ?_
    rotate_left
    · intro w hSw; (try dsimp only at hSw); first | (go_simp; done) | (go_simp; with_reducible rfl)
    simp [Act.put]
    refine wpAnyH_take (i := 23) (v := ?_) rfl (by kernel_rfl) (by kernel_rfl) (by kernel_rfl) (fun _ _ _ h => h) (Or.inl ⟨by rfl, ?_⟩) (by assumption) ?_
    rotate_left
    · intro w hSw; (try dsimp only at hSw); first | (go_simp; done) | (go_simp; with_reducible rfl)
    simp [Act.put]
    refine wpAnyH_take (i := 24) (v := ?_) rfl (by kernel_rfl) (by kernel_rfl) (by kernel_rfl) (fun _ _ _ h => h) (Or.inl ⟨by rfl, ?_⟩) (by assumption) ?_
    rotate_left
    · intro w hSw; (try dsimp only at hSw); first | (go_simp; done) | (go_simp; with_reducible rfl)
    simp [Act.put]
    refine wpAnyH_ready (rs := [25]) (by kernel_rfl) (by simp) ?_
    refine AllReadyH.cons rfl (fun K hK => ?_) AllReadyH.nil
    go_simp
    refine Calls.mono (D9.out va vc ra rc _ HXw14.out HRw14.out) ?_
    rintro e w15 ⟨rfl, hb⟩
    have GSw15 := GSw14.below hb
    have HBw15 : Hid (Below w.heap.size w w15) := HBw14.out.trans (hb.mono HBw14.out.size)
    have HXw15 : Hid (ClsAt w15 va X) := HXw14.out.below hb
    have HRw15 : Hid (ClsAt w15 ra X) := HRw14.out.below hb
    have HYw15 : Hid (ClsAt w15 sa Y) := HYw14.out.below hb
    clear hb HXw14 HRw14 HYw14
    go_wp2_with fail
    refine hK.out _ _ ?_ (fun hHeld => ?_)
    · (try dsimp only)
      exact GSw15
    clear hK K
    try simp [Act.put]
    refine wpAnyH_take (i := 26) (v := ?_) rfl (by kernel_rfl) (by kernel_rfl) (by kernel_rfl) (fun _ _ _ h => h) (Or.inl ⟨by rfl, ?_⟩) (by assumption) ?_
    rotate_left
    · intro w hSw; (try dsimp only at hSw); first | (go_simp; done) | (go_simp; with_reducible rfl)
    simp [Act.put]
    refine wpAnyH_take (i := 27) (v := ?_) rfl (by kernel_rfl) (by kernel_rfl) (by kernel_rfl) (fun _ _ _ h => h) (Or.inl ⟨by rfl, ?_⟩) (by assumption) ?_
    rotate_left
    · intro w hSw; (try dsimp only at hSw); first | (go_simp; done) | (go_simp; with_reducible rfl)
    simp [Act.put]
    refine wpAnyH_take (i := 28) (v := ?_) rfl (by kernel_rfl) (by kernel_rfl) (by kernel_rfl) (fun _ _ _ h => h) (Or.inl ⟨by rfl, ?_⟩) (by assumption) ?_
    rotate_left
    · intro w hSw; (try dsimp only at hSw); first | (go_simp; done) | (go_simp; with_reducible rfl)
    simp [Act.put]
    refine wpAnyH_take (i := 29) (v := ?_) rfl (by kernel_rfl) (by kernel_rfl) (by kernel_rfl) (fun _ _ _ h => h) (Or.inl ⟨by rfl, ?_⟩) (by assumption) ?_
    rotate_left
    · intro w hSw; (try dsimp only at hSw); first | (go_simp; done) | (go_simp; with_reducible rfl)
    simp [Act.put]
    refine wpAnyH_take (i := 30) (v := ?_) rfl (by kernel_rfl) (by kernel_rfl) (by kernel_rfl) (fun _ _ _ h => h) (Or.inl ⟨by rfl, ?_⟩) (by assumption) ?_
    rotate_left
    · intro w hSw; (try dsimp only at hSw); first | (go_simp; done) | (go_simp; with_reducible rfl)
    simp [Act.put]
    refine wpAnyH_take (i := 31) (v := ?_) rfl (by kernel_rfl) (by kernel_rfl) (by kernel_rfl) (fun _ _ _ h => h) (Or.inl ⟨by rfl, ?_⟩) (by assumption) ?_
    rotate_left
    · intro w hSw; (try dsimp only at hSw); first | (go_simp; done) | (go_simp; with_reducible rfl)
    simp [Act.put]
    refine wpAnyH_take (i := 32) (v := ?_) rfl (by kernel_rfl) (by kernel_rfl) (by kernel_rfl) (fun _ _ _ h => h) (Or.inl ⟨by rfl, ?_⟩) (by assumption) ?_
    rotate_left
    · intro w hSw; (try dsimp only at hSw); first | (go_simp; done) | (go_simp; with_reducible rfl)
    simp [Act.put]
    refine wpAnyH_take (i := 33) (v := ?_) rfl (by kernel_rfl) (by kernel_rfl) (by kernel_rfl) (fun _ _ _ h => h) (Or.inl ⟨by rfl, ?_⟩) (by assumption) ?_
    rotate_left
    · intro w hSw; (try dsimp only at hSw); first | (go_simp; done) | (go_simp; with_reducible rfl)
    simp [Act.put]
    refine wpAnyH_take (i := 34) (v := ?_) rfl (by kernel_rfl) (by kernel_rfl) (by kernel_rfl) (fun _ _ _ h => h) (Or.inl ⟨by rfl, ?_⟩) (by assumption) ?_
    rotate_left
    · intro w hSw; (try dsimp only at hSw); first | (go_simp; done) | (go_simp; with_reducible rfl)
    simp [Act.put]
    refine wpAnyH_take (i := 35) (v := ?_) rfl (by kernel_rfl) (by kernel_rfl) (by kernel_rfl) (fun _ _ _ h => h) (Or.inl ⟨by rfl, ?_⟩) (by assumption) ?_
    rotate_left
    · intro w hSw; (try dsimp only at hSw); first | (go_simp; done) | (go_simp; with_reducible rfl)
    simp [Act.put]
    refine wpAnyH_take (i := 36) (v := ?_) rfl (by kernel_rfl) (by kernel_rfl) (by kernel_rfl) (fun _ _ _ h => h) (Or.inl ⟨by rfl, ?_⟩) (by assumption) ?_
    rotate_left
    · intro w hSw; (try dsimp only at hSw); first | (go_simp; done) | (go_simp; with_reducible rfl)
    simp [Act.put]
    refine wpAnyH_take (i := 37) (v := undef) rfl (by kernel_rfl) (by kernel_rfl) (by kernel_rfl) (fun _ _ _ h => h) (Or.inr ⟨by rfl, rfl⟩) (by assumption) ?_
    simp [Act.put]
    refine wpAnyH_take (i := 38) (v := undef) rfl (by kernel_rfl) (by kernel_rfl) (by kernel_rfl) (fun _ _ _ h => h) (Or.inr ⟨by rfl, rfl⟩) (by assumption) ?_
    simp [Act.put]
    refine wpAnyH_take (i := 39) (v := undef) rfl (by kernel_rfl) (by kernel_rfl) (by kernel_rfl) (fun _ _ _ h => h) (Or.inr ⟨by rfl, rfl⟩) (by assumption) ?_
    simp [Act.put]
    refine wpAnyH_take (i := 40) (v := ?_) rfl (by kernel_rfl) (by kernel_rfl) (by kernel_rfl) (fun _ _ _ h => h) (Or.inl ⟨by rfl, ?_⟩) (by assumption) ?_
    rotate_left
    · intro w hSw; (try dsimp only at hSw); first | (go_simp; done) | (go_simp; with_reducible rfl)
    simp [Act.put]
    refine wpAnyH_take (i := 41) (v := ?_) rfl (by kernel_rfl) (by kernel_rfl) (by kernel_rfl) (fun _ _ _ h => h) (Or.inl ⟨by rfl, ?_⟩) (by assumption) ?_
    rotate_left
    · intro w hSw; (try dsimp only at hSw); first | (go_simp; done) | (go_simp; with_reducible rfl)
    simp [Act.put]
    refine wpAnyH_take (i := 42) (v := ?_) rfl (by kernel_rfl) (by kernel_rfl) (by kernel_rfl) (fun _ _ _ h => h) (Or.inl ⟨by rfl, ?_⟩) (by assumption) ?_
    rotate_left
    · intro w hSw; (try dsimp only at hSw); first | (go_simp; done) | (go_simp; with_reducible rfl)
    simp [Act.put]
    refine wpAnyH_take (i := 43) (v := ?_) rfl (by kernel_rfl) (by kernel_rfl) (by kernel_rfl) (fun _ _ _ h => h) (Or.inl ⟨by rfl, ?_⟩) (by assumption) ?_
    rotate_left
    · intro w hSw; (try dsimp only at hSw); first | (go_simp; done) | (go_simp; with_reducible rfl)
    simp [Act.put]
    refine wpAnyH_done (by kernel_rfl) ?_ _
    refine NoPanic.normal ?_
    go_wp2_with fail
    go_ret
    exact ⟨rfl, HBw15.out⟩

end Go.Proofs.Ythlpkdmmkfhlead
