/-
  What the first cell leads to, copied: copyFrom.
-/
import Derived.Test.YtgjfmepbphfjoaaUCe
namespace Go.Proofs.Ytgjfmepbphfjoaa
open Go.RowKit Go.ChangeShapes Go.WideShapes

/-- No row of kids is the row of what is there. -/
def KFar (L : Nat) (K : Nat → Value) (v : Value) : Prop := ∀ i, i < L → ∀ b, (K i).ownBlock = some b → v.ownBlock ≠ some b

theorem wf_small {q : Nat} (h : q ≤ 1000) : (Lit.int .i64 (q : Int)).wf = true := by
  unfold Lit.wf
  simp [IntKind.min, IntKind.max, IntKind.signed, IntKind.bits]
  omega

theorem cell_keep {w : World} {b t : Nat} {v : Value} (h : w.heap[b]? = some (.cells #[v] t (0, 0))) : w.cell? ⟨b, 0, none⟩ = some v := box_cell h

set_option maxRecDepth 100000 in
set_option maxHeartbeats 4000000 in
theorem copyFrom_any (a : Option Addr) (c : Nat) (G : List Cl) (w : World) (hG : KidsIn G) (h0 : 0 < G.length) (hN : G.length ≤ 24) (hK8 : ∀ i, i < G.length → (cl G i).ks.length ≤ 8) (hS : ClsAt w a G) :
    Calls Try.prog 54 #[.agg #[.slice a G.length c], .int .i64 0] w fun e w' => ∃ v K, e = .returned (.agg #[v]) ∧ Below w.heap.size w w' ∧ OwnC w.heap.size (copyF G) K v w' := by
  obtain ⟨i0, hi0, hz0, hz1, hz2⟩ := info_parts infoCell
  have hmm := @run_makeMap Try.prog
  have eg := enters_of Try.func65 (by kernel_rfl) rfl
  have BR : Hid (∀ (v' : Value) (T' : List Int) (W : World), BrAt W (w.heap.size + 5) (w.heap.size + 4) (w.heap.size + 2) (w.heap.size + 3) 0 v' T' → T'.length < 100000 → w.heap.size + 5 ≤ W.heap.size → Calls _ _ _ _ _) := fun v' T' W h1 h4 h5 => bring_any _ _ _ _ 0 v' T' 0 W h1 (by decide) (by omega) h4 h5
  have CC : Hid (∀ (y : Nat), y < G.length → ∀ (ka : Option Addr) (kc nn : Nat) (v' : Value) (T' : List Int) (W : World), BrAt W (w.heap.size + 5) (w.heap.size + 4) (w.heap.size + 2) (w.heap.size + 3) nn v' T' → w.heap.size + 5 ≤ W.heap.size → nn ≤ 1000 → T'.length ≤ 1000 → (∀ W', Below w.heap.size W W' → IntsAt W' ka (cl G y).ks) → Calls _ _ _ _ _) := fun y hy ka kc nn v' T' W h1 h2 h3 h4 h5 =>
    copyCell_any (cl G y) ka kc _ w.heap.size _ _ _ nn v' T' W h1 h2 (hK8 y hy) h3 h4 (fun k hk => by obtain ⟨q, e, hq⟩ := hG y hy k hk; rw [e]; exact wf_small (by omega)) ⟨by omega, by omega, by omega⟩ h5
  have PL : Hid (∀ i, i < (bfs G i).length → ∃ y : Nat, (bfs G i).getD i 0 = y ∧ y < G.length) := fun i hi => (bfs_places hG h0 i).2 _ (by rw [getD_elem _ _ hi]; exact List.getElem_mem hi)
  have SH : Hid (∀ i, (bfs G i).length ≤ G.length) := fun i => bfs_short hG h0 i
  have NXT : Hid (∀ (i y : Nat), i < (bfs G i).length → (bfs G i).getD i 0 = y → (copyF G).take (i + 1) = (copyF G).take i ++ [⟨(cl G y).n, (cl G y).ks.map (at1 (bfs G (i + 1)))⟩]) := fun i y h1 h2 => copy_next hG h0 h1 h2
  have STP : Hid (∀ (i y : Nat), i < (bfs G i).length → (bfs G i).getD i 0 = y → brings (bfs G i) (cl G y).ks = bfs G (i + 1)) := fun i y h1 h2 => by have := bfs_step h1; rwa [h2, Int.toNat_natCast] at this
  have MON : Hid (∀ i, (bfs G i).length ≤ (bfs G (i + 1)).length) := bfs_le G
  have K8 : Hid (∀ i, i < G.length → (cl G i).ks.length ≤ 8) := hK8
  have CL : Hid ((copyF G).length = (reach G).length) := copyF_len h0
  have END : Hid (∀ i, ¬ i < (bfs G i).length → bfs G i = reach G) := fun i h => bfs_end hG h0 h
  have GET : Hid (∀ i, i < (bfs G i).length → i < (reach G).length) := fun i h => (bfs_get hG h0 h).1
  have HS : Hid (ClsAt w a G) := hS
  clear hS hK8 hG
  obtain ⟨n, hn⟩ : ∃ n, G.length = n := ⟨_, rfl⟩
  have HN : Hid (G.length = n) := hn
  rw [hn] at h0 hN CC PL SH K8 ⊢
  clear hn
  go_enter Try.func54, Try.ntmps54
  go_wp2_with fail
  refine Calls.mono (BR.out (.slice none 0 0) [] _ ?st (by simp) (by simp only [World.size_alloc]; omega)) ?_
  case st =>
    refine ⟨?_, ?_, ?_, World.ownsRow_nil _ _ _ _⟩
    · have := heap_alloc_new ((((w.alloc (.cells #[.slice a n c] 25)).alloc (.cells #[.slice none 0 0] 25)).alloc (.cells #[.slice none 0 0] 40)).alloc (.map #[] 0)) (.cells #[.map (some (w.heap.size + 3))] 85)
      simpa using this
    · refine (Below.heap_alloc _ _ _ (by simp only [World.size_alloc]; omega)).trans ((Below.heap_alloc _ _ _ (by simp only [World.size_alloc]; omega)).trans ?_)
      have := heap_alloc_new ((w.alloc (.cells #[.slice a n c] 25)).alloc (.cells #[.slice none 0 0] 25)) (.cells #[.slice none 0 0] 40)
      simpa using this
    · have := RawAt.made Try.prog 3 (((w.alloc (.cells #[.slice a n c] 25)).alloc (.cells #[.slice none 0 0] 25)).alloc (.cells #[.slice none 0 0] 40))
      simp only [World.size_alloc] at this
      exact (this.kept (Below.heap_alloc _ _ _ (by simp only [World.size_alloc]; omega))).congr (fun kl _ => by unfold lk; split <;> rfl)
  rintro e w1 ⟨v1, rfl, hbr, _, hof⟩
  have hs1 := hof.size
  simp only [World.size_alloc] at hs1
  have x0 : w1.heap[w.heap.size]? = some (.cells #[.slice a n c] 25 (0, 0)) := (hof.block _ (by simp only [World.size_alloc]; omega) (by rintro (e | e | e) <;> first | omega | cases e)).trans ((Below.heap_alloc _ _ _ (by simp only [World.size_alloc]; omega)).trans ((Below.heap_alloc _ _ _ (by simp only [World.size_alloc]; omega)).trans ((Below.heap_alloc _ _ _ (by simp only [World.size_alloc]; omega)).trans ((Below.heap_alloc _ _ _ (by simp only [World.size_alloc]; omega)).trans (heap_alloc_new w _)))))
  have x1 : w1.heap[w.heap.size + 1]? = some (.cells #[.slice none 0 0] 25 (0, 0)) := (hof.block _ (by simp only [World.size_alloc]; omega) (by rintro (e | e | e) <;> first | omega | cases e)).trans ((Below.heap_alloc _ _ _ (by simp only [World.size_alloc]; omega)).trans ((Below.heap_alloc _ _ _ (by simp only [World.size_alloc]; omega)).trans ((Below.heap_alloc _ _ _ (by simp only [World.size_alloc]; omega)).trans (by have := heap_alloc_new (w.alloc (.cells #[.slice a n c] 25)) (.cells #[.slice none 0 0] 25); simpa using this))))
  have HB1 : Hid (Below w.heap.size w w1) := ((two_belowS w _ _).trans ((((Below.refl w.heap.size _).alloc (by simp only [World.size_alloc]; omega) _).alloc (by simp only [World.size_alloc]; omega) _).alloc (by simp only [World.size_alloc]; omega) _)).trans (hof.below (by simp only [World.size_alloc]; omega) (fun k hk => by rcases hk with e | e | e <;> first | omega | cases e))
  have BR1 : Hid (BrAt w1 (w.heap.size + 5) (w.heap.size + 4) (w.heap.size + 2) (w.heap.size + 3) (1 + 8 * 0) v1 (bfs G 0)) := hbr
  clear hbr hof BR
  go_wp2_with fail
  go_loopg [8, 9] n (fun g s8 s9 wr => ∃ (i : Nat) (v' : Value) (K : Nat → Value), i ≤ n ∧ n - i ≤ g ∧ s9 = .int .i64 i ∧ wr.heap[w.heap.size]? = some (.cells #[.slice a n c] 25 (0, 0)) ∧ wr.heap[w.heap.size + 1]? = some (.cells #[.slice none 0 0] 25 (0, 0)) ∧ w.heap.size + 5 ≤ wr.heap.size ∧ i ≤ (bfs G i).length ∧
      Hid (BrAt wr (w.heap.size + 5) (w.heap.size + 4) (w.heap.size + 2) (w.heap.size + 3) (1 + 8 * i) v' (bfs G i)) ∧ Hid (OwnC (w.heap.size + 5) ((copyF G).take i) K s8 wr) ∧ Hid (KFar i K v') ∧ Hid (Below w.heap.size w wr))
  case atStart => exact ⟨0, v1, fun _ => .slice none 0 0, by omega, by omega, rfl, x0, x1, by omega, Nat.zero_le _, BR1, (show OwnC (w.heap.size + 5) [] _ _ w1 from ⟨World.ownsRow_nil _ _ _ _, fun i hi => by cases hi⟩), (fun i hi => absurd hi (Nat.not_lt_zero _)), HB1⟩
  case round =>
    obtain ⟨i, v', KK, hi, hg, rfl, y0, y1, hsz, hil, HBR, HOW, HKF, HBW⟩ := hrel
    clear x0 x1 BR1 HB1
    have b0 := box_cell y0
    obtain ⟨ta, tc, hv, hti⟩ := ints_own HBR.out.own
    subst hv
    have b2 := box_cell HBR.out.btE
    have z0 := box_lt y0
    have z2 := box_lt HBR.out.btE
    obtain ⟨ca, cc, hv8, _⟩ := HOW.out.cls
    subst hv8
    have hcl : ((copyF G).take i).length = i := by
      rw [List.length_take, CL.out]
      by_cases h : i < (bfs G i).length
      · have := GET.out i h
        omega
      · have e := END.out i h
        rw [← e]; omega
    rw [hcl]
    have SHi := SH.out i
    by_cases hlt : i < (bfs G i).length
    · obtain ⟨y, hy, hyn⟩ := PL.out i hlt
      obtain ⟨tb, to, et, htc⟩ := hti i hlt
      subst et
      rw [hy] at htc
      obtain ⟨gb, go, eg2, c0, ka, kc, c1, hki⟩ := HS.out y (by rw [HN.out]; exact hyn)
      subst eg2
      have d0 := keepC c0 HBW.out
      have d1 := keepC c1 HBW.out
      have zt := World.block_lt_of_cell? _ _ htc
      have zg := World.block_lt_of_cell? _ _ d0
      have hin : (i : Int) < ((bfs G i).length : Int) := by omega
      have hyn2 : (y : Int) < (n : Int) := by omega
      have NX : Hid _ := NXT.out i y hlt hy
      have ST : Hid _ := STP.out i y hlt hy
      have MO := MON.out i
      have HKI2 : Hid (∀ W', Below w.heap.size wr.drew W' → IntsAt W' ka (cl G y).ks) := fun W' hW' => hki.below (HBW.out.drew.trans hW')
      have CCy : Hid _ := CC.out y hyn ka kc (1 + 8 * i) (.slice (some ⟨tb, to, none⟩) (bfs G i).length tc) (bfs G i) wr.drew (HBR.out.kept (w' := wr.drew) (fun _ _ _ => rfl)) (by exact hsz) (by omega) (by omega) HKI2.out
      have k8 := K8.out y hyn
      clear hti hki c0 c1 hy
      obtain ⟨tl, htl⟩ : ∃ z, (bfs G i).length = z := ⟨_, rfl⟩
      have HTL : Hid ((bfs G i).length = tl) := htl
      rw [htl] at hlt hin b2 CCy SHi hil MO
      have HKF2 : Hid (KFar i KK (.slice (some ⟨tb, to, none⟩) tl tc)) := by have h := HKF.out; rw [htl] at h; exact h
      have HBR2 : Hid (BrAt wr (w.heap.size + 5) (w.heap.size + 4) (w.heap.size + 2) (w.heap.size + 3) (1 + 8 * i) (.slice (some ⟨tb, to, none⟩) tl tc) (bfs G i)) := by have h := HBR.out; rw [htl] at h; exact h
      have HOW2 : Hid (OwnC (w.heap.size + 5) ((copyF G).take i) KK (.slice ca i cc) wr) := by have h := HOW.out; rw [hcl] at h; exact h
      have HCL : Hid (((copyF G).take i).length = i) := hcl
      clear htl hcl HKF HBR HOW
      generalize (copyF G).take i = Li at *
      generalize bfs G i = Ti at *
      obtain ⟨Tn, hTn⟩ : ∃ z, bfs G (i + 1) = z := ⟨_, rfl⟩
      have HTn : Hid (bfs G (i + 1) = Tn) := hTn
      rw [hTn] at NX ST MO
      clear hTn
      generalize cl G y = xy at *
      obtain ⟨xn, xks⟩ := xy
      dsimp only at d0 d1 k8 CCy NX ST HKI2
      obtain ⟨xl, hxl⟩ : ∃ z, xks.length = z := ⟨_, rfl⟩
      have HXL : Hid (xks.length = xl) := hxl
      rw [hxl] at d1 k8 CCy
      clear hxl
      go_wp2_with fail
      refine wp_region_noPanic ?_
      refine wp_region_held_drew (S := fun w'' => w''.cell? ⟨w.heap.size, 0, none⟩ = some (.slice (some ⟨gb, go, none⟩) n c)) (by kernel_rfl) (by (try dsimp only); go_keep) (fun hHeld => ?_)
      refine wpAnyH_take (i := 0) (v := ?_) rfl (by kernel_rfl) (by kernel_rfl) (by kernel_rfl) (fun _ _ _ h => h) (Or.inl ⟨by rfl, ?_⟩) (by assumption) ?_
      rotate_left
      · intro w hSw; (try dsimp only at hSw); first | (go_simp; done) | (go_simp; with_reducible rfl)
      simp [Act.put]
      refine wpAnyH_take (i := 1) (v := ?_) rfl (by kernel_rfl) (by kernel_rfl) (by kernel_rfl) (fun _ _ _ h => h) (Or.inl ⟨by rfl, ?_⟩) (by assumption) ?_
      rotate_left
      · intro w hSw; (try dsimp only at hSw); first | (go_simp; done) | (go_simp; with_reducible rfl)
      simp [Act.put]
      refine wpAnyH_take (i := 2) (v := ?_) rfl (by kernel_rfl) (by kernel_rfl) (by kernel_rfl) (fun _ _ _ h => h) (Or.inl ⟨by rfl, ?_⟩) (by assumption) ?_
      rotate_left
      · intro w hSw; (try dsimp only at hSw); first | (go_simp; done) | (go_simp; with_reducible rfl)
      simp [Act.put]
      refine wpAnyH_take (i := 4) (v := ?_) rfl (by kernel_rfl) (by kernel_rfl) (by kernel_rfl) (fun _ _ _ h => h) (Or.inl ⟨by rfl, ?_⟩) (by assumption) ?_
      rotate_left
      · intro w hSw; (try dsimp only at hSw); first | (go_simp; done) | (go_simp; with_reducible rfl)
      simp [Act.put]
      refine wpAnyH_take (i := 9) (v := ?_) rfl (by kernel_rfl) (by kernel_rfl) (by kernel_rfl) (fun _ _ _ h => h) (Or.inl ⟨by rfl, ?_⟩) (by assumption) ?_
      rotate_left
      · intro w hSw; (try dsimp only at hSw); first | (go_simp; done) | (go_simp; with_reducible rfl)
      simp [Act.put]
      refine wpAnyH_ready (rs := [3]) (by kernel_rfl) (by simp) ?_
      refine AllReadyH.cons rfl (fun K hK => ?_) AllReadyH.nil
      go_simp
      refine hK.out _ _ ?_ (fun hHeld => ?_)
      · (try dsimp only)
        first | go_keep | assumption
      clear hK K
      try simp [Act.put]
      refine wpAnyH_take (i := 5) (v := ?_) rfl (by kernel_rfl) (by kernel_rfl) (by kernel_rfl) (fun _ _ _ h => h) (Or.inl ⟨by rfl, ?_⟩) (by assumption) ?_
      rotate_left
      · intro w hSw; (try dsimp only at hSw); first | (go_simp; done) | (go_simp; with_reducible rfl)
      simp [Act.put]
      refine wpAnyH_ready (rs := [6]) (by kernel_rfl) (by simp) ?_
      refine AllReadyH.cons rfl (fun K hK => ?_) AllReadyH.nil
      go_simp
      refine hK.out _ _ ?_ (fun hHeld => ?_)
      · (try dsimp only)
        first | go_keep | assumption
      clear hK K
      try simp [Act.put]
      refine wpAnyH_take (i := 7) (v := ?_) rfl (by kernel_rfl) (by kernel_rfl) (by kernel_rfl) (fun _ _ _ h => h) (Or.inl ⟨by rfl, ?_⟩) (by assumption) ?_
      rotate_left
      · intro w hSw; (try dsimp only at hSw); first | (go_simp; done) | (go_simp; with_reducible rfl)
      simp [Act.put]
      refine wpAnyH_ready (rs := [8]) (by kernel_rfl) (by simp) ?_
      refine AllReadyH.cons rfl (fun K hK => ?_) AllReadyH.nil
      go_simp
      refine hK.out _ _ ?_ (fun hHeld => ?_)
      · (try dsimp only)
        first | go_keep | assumption
      clear hK K
      try simp [Act.put]
      refine wpAnyH_ready (rs := [10]) (by kernel_rfl) (by simp) ?_
      refine AllReadyH.cons rfl (fun K hK => ?_) AllReadyH.nil
      go_simp
      refine Calls.mono CCy.out ?_
      rintro e w5 ⟨v5, kb, rfl, hbr5, hla5, hof5, hkb, hvk, how5⟩
      have hs5 : wr.heap.size ≤ w5.heap.size := hof5.size
      have Y0' : w5.heap[w.heap.size]? = some (.cells #[.slice (some ⟨gb, go, none⟩) n c] 25 (0, 0)) := (hof5.block _ (by exact z0) (by rintro (e | e | e) <;> first | omega | (have := (HBR2.out.own.lt _ e).1; omega))).trans y0
      have Y1' : w5.heap[w.heap.size + 1]? = some (.cells #[.slice none 0 0] 25 (0, 0)) := (hof5.block _ (by exact box_lt y1) (by rintro (e | e | e) <;> first | omega | (have := (HBR2.out.own.lt _ e).1; omega))).trans y1
      have t0 := box_cell Y0'
      have HB5 : Hid (Below w.heap.size w w5) := HBW.out.drew.trans (hof5.below HBW.out.size (fun k hk => by rcases hk with e | e | e <;> first | omega | (have := (HBR2.out.own.lt k e).1; omega)))
      have OW5 : Hid (OwnC (w.heap.size + 5) Li KK (.slice ca i cc) w5) := (show OwnC (w.heap.size + 5) Li KK (.slice ca i cc) wr.drew from HOW2.out).kept (fun j h1 h2 h3 => hof5.block j h2 (by
        rintro (e | e | e)
        · omega
        · omega
        · rcases h3 with h3 | ⟨q, hq, h3⟩
          · exact owns_apart HBR2.out.own HOW2.out.1 (by decide) j e h3
          · exact HKF2.out q (by rw [← HCL.out]; exact hq) j h3 e))
      have KF5 : Hid (KFar (i + 1) (fun q => if q = i then .slice (some ⟨kb, 0, none⟩) xl xl else KK q) v5) := fun q hq b hb => by
        by_cases eq : q = i
        · subst eq
          simp only [if_true] at hb
          cases hb
          exact hvk
        · simp only [if_neg eq] at hb
          rcases hla5 with e | ⟨j, e, hj⟩
          · rw [e]
            exact HKF2.out q (by omega) b hb
          · rw [e]
            intro e2
            cases e2
            have := ((HOW2.out.2 q (by rw [HCL.out]; omega)).lt b hb).2
            have hj2 : wr.heap.size ≤ b := hj
            omega
      have BR5 : Hid (BrAt w5 (w.heap.size + 5) (w.heap.size + 4) (w.heap.size + 2) (w.heap.size + 3) (1 + 8 * (i + 1)) v5 Tn) := by
        rw [ST.out] at hbr5
        exact ⟨hbr5.bmE, hbr5.btE, hbr5.mp.mono (by omega), hbr5.own⟩
      have OWK : Hid (w5.ownsRow (w.heap.size + 5) 3 1 (.slice (some ⟨kb, 0, none⟩) xl xl) (xks.map (at1 Tn)).length ((xks.map (at1 Tn)).map (Value.int .i64))) := by
        rw [ST.out] at how5
        have h := ownsRow_baseL how5 (B' := w.heap.size + 5) (by exact hsz)
        rw [List.length_map, HXL.out]
        exact h
      clear hbr5 hla5 hof5 hvk how5
      go_wp2_with fail
      refine hK.out _ _ ?_ (fun hHeld => ?_)
      · (try dsimp only)
        first | exact t0 | go_keep
      clear hK K
      try simp [Act.put]
      refine wpAnyH_ready (rs := [11]) (by kernel_rfl) (by simp) ?_
      refine AllReadyH.cons rfl (fun K hK => ?_) AllReadyH.nil
      go_simp
      refine hK.out _ _ ?_ (fun hHeld => ?_)
      · (try dsimp only)
        first | exact (one_belowS _ _).cell (by exact box_lt Y0') |>.trans t0 | go_keep
      clear hK K
      try simp [Act.put]
      refine wpAnyH_ready (rs := [12]) (by kernel_rfl) (by simp) ?_
      refine AllReadyH.cons rfl (fun K hK => ?_) AllReadyH.nil
      refine step_append_ownC rfl (.tmp 21) (.tmp 32) 23 rfl (w.heap.size + 5) 62 i0 (.agg #[.int .i64 0, .slice none 0 0]) 2 32 Try.underlying23 hi0 hz0 hz1 hz2 rfl (by decide) (.slice ca i cc) i (ccells Li KK) rfl ?own ⟨w5.heap.size, 0, none⟩ 1 1 (ccell ⟨xn, xks.map (at1 Tn)⟩ (.slice (some ⟨kb, 0, none⟩) xl xl)) rfl rfl (news2 (by go_simp) (by go_simp)) one2 (by unfold maxLen; omega) (by omega) (by simp only [World.size_alloc]; omega) ?_
      case own => exact (by have h := OW5.out.1; rw [HCL.out] at h; exact h.alloc _)
      intro v6 w6 own6 grow6
      have hs6 := grow6.size
      simp only [World.size_alloc] at hs6
      have cb := (OW5.out.1).lt
      have far6 : ∀ j, j < w5.heap.size → (Value.slice ca i cc).ownBlock ≠ some j → w6.heap[j]? = w5.heap[j]? := fun j h1 h2 => (grow6.block j (by simp only [World.size_alloc]; omega) (fun e => h2 e.symm)).trans (Below.heap_alloc _ _ _ h1)
      have Y0 := (far6 _ (box_lt Y0') (fun e => by have := (cb _ e).1; omega)).trans Y0'
      have Y1 := (far6 _ (box_lt Y1') (fun e => by have := (cb _ e).1; omega)).trans Y1'
      have OW6 : Hid (OwnC (w.heap.size + 5) ((copyF G).take (i + 1)) (fun q => if q = i then .slice (some ⟨kb, 0, none⟩) xl xl else KK q) v6 w6) := by
        rw [NX.out]
        have h := OW5.out.step (s := ⟨xn, xks.map (at1 Tn)⟩) OWK.out grow6 (by rw [HCL.out]; exact own6)
        rw [HCL.out] at h
        exact h
      have BR6 : Hid (BrAt w6 (w.heap.size + 5) (w.heap.size + 4) (w.heap.size + 2) (w.heap.size + 3) (1 + 8 * (i + 1)) v5 Tn) := BR5.out.kept (fun j hj hx => far6 j hj (fun e => by
        have := (cb _ e).1
        rcases hx with e2 | e2 | e2 | e2
        · omega
        · omega
        · omega
        · exact owns_apart BR5.out.own OW5.out.1 (by decide) j e2 e))
      have HB6 : Hid (Below w.heap.size w w6) := (HB5.out.alloc (by have := HB5.out.size; omega) _).grown grow6 (by have := HB5.out.size; simp; omega) (fun k hk => by have := (cb k hk).1; omega)
      have KF6 : Hid _ := KF5
      have t6 := box_cell Y0
      clear own6 grow6 far6 cb
      refine hK.out _ _ ?_ (fun hHeld => ?_)
      · (try dsimp only)
        first | exact t6 | go_keep
      clear hK K
      try simp [Act.put]
      refine wpAnyH_take (i := 13) (v := ?_) rfl (by kernel_rfl) (by kernel_rfl) (by kernel_rfl) (fun _ _ _ h => h) (Or.inl ⟨by rfl, ?_⟩) (by assumption) ?_
      rotate_left
      · intro w hSw; (try dsimp only at hSw); first | (go_simp; done) | (go_simp; with_reducible rfl)
      simp [Act.put]
      refine wpAnyH_done (by kernel_rfl) ?_ _
      refine NoPanic.normal ?_
      go_wp2_with fail
      go_roundg (n - (i + 1))
      case measure => omega
      case rel => exact ⟨i + 1, v5, _, by omega, by omega, by go_num, Y0, Y1, by omega, (by rw [HTn.out]; omega), (by rw [HTn.out]; exact BR6), OW6, KF6, HB6⟩
    · have e1 := END.out i hlt
      have e2 : (copyF G).take i = copyF G := by
        rw [List.take_of_length_le]
        rw [CL.out, ← e1]; omega
      have FIN : Hid (∀ va, OwnC w.heap.size (copyF G) KK (.slice ca i cc) (wr.setCell ⟨w.heap.size + 1, 0, none⟩ va)) := fun va => by
        have h := HOW.out
        rw [hcl, e2] at h
        have h2 : OwnC w.heap.size (copyF G) KK (.slice ca i cc) wr := ⟨ownsRow_baseL h.1 (by omega), fun j hj => ownsRow_baseL (h.2 j hj) (by omega)⟩
        refine ⟨owns_block h.1 (fun k hk => Below.heap_setCell _ _ _ _ ?_) |> fun z => ownsRow_baseL z (by omega), fun j hj => ownsRow_baseL (owns_block (h.2 j hj) (fun k hk => Below.heap_setCell _ _ _ _ ?_)) (by omega)⟩
        · have := (h.1.lt k hk).1; show k ≠ w.heap.size + 1; omega
        · have := ((h.2 j hj).lt k hk).1; show k ≠ w.heap.size + 1; omega
      have q0 := box_cell y1
      have q1 := box_frozen (o := 0) y1
      have hlt2 : ¬ (i : Int) < ((bfs G i).length : Int) := by omega
      have r0 : (wr.setCell ⟨w.heap.size + 1, 0, none⟩ (.slice ca i cc)).cell? ⟨w.heap.size + 1, 0, none⟩ = some (.slice ca i cc) := World.cell?_setCell_same _ _ _ q0
      have z3 : w.heap.size + 1 < wr.heap.size := by omega
      have HBF : Hid (Below w.heap.size w (wr.setCell ⟨w.heap.size + 1, 0, none⟩ (.slice ca i cc))) := HBW.out.setCell (by show w.heap.size ≤ w.heap.size + 1; omega) _
      clear hti e1 e2 hcl HBR HOW HKF
      generalize (bfs G i).length = tl at *
      go_wp2_with fail
      refine bodyPost_ret (v := .agg #[.slice ca i cc]) (by simp [results, Try.results54, go_sem, r0]) rfl (by first | exact ⟨_, KK, rfl, HBF.out, FIN.out _⟩ | exact ⟨_, rfl, HBF.out, KK, FIN.out _⟩)
end Go.Proofs.Ytgjfmepbphfjoaa
