/-
  CloneApart at whatever arguments.
-/
import Derived.Test.YthlpkdmmkfhleadJCi
import Derived.Test.YthlpkdmmkfhleadJCj
import Derived.Test.YthlpkdmmkfhleadJNx
namespace Go.Proofs.Ythlpkdmmkfhlead
open Go.RowKit Go.ChangeShapes Go.WideShapes

set_option maxRecDepth 100000 in
set_option maxHeartbeats 2000000 in
theorem cloneApart_err (a xa : Option Addr) (c len cap : Nat) (G : List Cl) (E : Int) (w : World) (hN : G.length ≤ 9223372036854775807) (hB : BigC G) (hS : ClsAt w a G) (hE : gcheckE G = E) (hE0 : E ≠ 0) :
    Calls Try.prog 6 #[.agg #[.slice a G.length c], .slice xa len cap] w fun e w' => e = .returned (.bool true) ∧ Below w.heap.size w w' := by
  have d := fun (W : World) (hW : ClsAt W a G) => copy_any a c G W hN hB hW
  rw [hE] at d
  have D : Hid _ := d
  have DC : Hid ClonedOk := cloned_ok
  have HS : Hid (ClsAt w a G) := hS
  have e1 : (E == 0) = false := beq_eq_false_iff_ne.2 hE0
  have e2 : decide (E = 0) = false := decide_eq_false hE0
  clear hS hE hB d
  generalize G.length = n at *
  go_enter Try.func6, Try.ntmps6
  go_wp2_with fail
  refine Calls.mono (D.out _ (HS.out.below (one_belowS _ _))) ?_
  rintro e w1 ⟨v, rfl, hb, K, hown⟩
  obtain ⟨va, vc, hv, _⟩ := hown.cls
  subst hv
  have HB : Hid (Below w.heap.size w w1) := (one_belowS w _).trans (hb.mono (by simp))
  clear hb hown
  generalize (resF G).length = m at *
  go_wp2_with fail
  refine Calls.mono (DC.out _) ?_
  rintro e w3 ⟨rfl, hb⟩
  have HB3 : Hid (Below w.heap.size w w3) := (HB.out.trans ((one_belowS _ _).mono HB.out.size)).trans (hb.mono (by have := HB.out.size; simp; omega))
  clear hb
  go_wp2_with fail
  refine Calls.mono (DC.out _) ?_
  rintro e w4 ⟨rfl, hb⟩
  have HB4 : Hid (Below w.heap.size w w4) := HB3.out.trans (hb.mono HB3.out.size)
  clear hb
  go_wp2_with fail
  go_ret
  exact ⟨rfl, HB4.out⟩


theorem Right.grow {L : List Cl} (h : Right L) {p q : Nat} (hl : L.length < 24) (hp : p < 1000) (hq : q < L.length + 1) : Right (L ++ [⟨(p : Int), [(q : Int)]⟩]) := by
  have e : ∀ i, i < (L ++ [(⟨(p : Int), [(q : Int)]⟩ : Cl)]).length → (i < L.length ∧ cl (L ++ [⟨(p : Int), [(q : Int)]⟩]) i = cl L i) ∨ cl (L ++ [⟨(p : Int), [(q : Int)]⟩]) i = ⟨(p : Int), [(q : Int)]⟩ := fun i hi => by
    by_cases h1 : i < L.length
    · exact Or.inl ⟨h1, cl_left h1⟩
    · rw [List.length_append, List.length_singleton] at hi
      have : i = L.length := by omega
      subst this
      exact Or.inr (cl_last _ _)
  have hlen : (L ++ [(⟨(p : Int), [(q : Int)]⟩ : Cl)]).length = L.length + 1 := by simp
  refine ⟨by rw [hlen]; omega, fun i hi => ?_, fun i hi => ?_, fun i hi k hk => ?_⟩
  · rcases e i hi with ⟨h1, e1⟩ | e1
    · rw [e1]; exact h.range i h1
    · rw [e1]; exact ⟨by show -1000000 ≤ (p : Int); omega, by show (p : Int) ≤ 1000000; omega⟩
  · rcases e i hi with ⟨h1, e1⟩ | e1
    · rw [e1]; exact h.kids8 i h1
    · rw [e1]; show ([(q : Int)] : List Int).length ≤ 8; simp
  · rcases e i hi with ⟨h1, e1⟩ | e1
    · rw [e1] at hk
      obtain ⟨r, er, hr⟩ := h.kids i h1 k hk
      exact ⟨r, er, by rw [hlen]; omega⟩
    · rw [e1] at hk
      have : k = (q : Int) := by simpa using hk
      exact ⟨q, this, by rw [hlen]; exact hq⟩

theorem own_oneC (W : World) (B : Nat) (x : Int) (hB : B ≤ W.heap.size) : (W.alloc (.cells #[.int .i64 x] 3)).ownsRow B 3 1 (.slice (some ⟨W.heap.size, 0, none⟩) 1 1) 1 [.int .i64 x] :=
  ⟨rfl, Or.inr ⟨W.heap.size, 1, #[.int .i64 x], rfl, hB, heap_alloc_new W _, by omega, by unfold maxLen; omega, by simp, by simp⟩⟩

theorem box_row {w : World} {b t t' B n size : Nat} {u v : Value} {xs : List Value} (h : w.heap[b]? = some (.cells #[u] t (0, 0))) (h2 : w.ownsRow B t' size v n xs) (hne : t ≠ t') : v.ownBlock ≠ some b := fun e => by
  rcases h2.2 with ⟨rfl, _⟩ | ⟨g, cap, cur, rfl, _, h3, _⟩
  · cases e
  · cases e
    rw [h] at h3
    cases h3
    exact hne rfl

set_option maxRecDepth 100000 in
set_option maxHeartbeats 8000000 in
theorem cloneApart_ok (a xa : Option Addr) (c len cap : Nat) (G : List Cl) (z : List Int) (w : World) (hR : Right G) (hS : ClsAt w a G) (hlen : z.length = len) (hlc : len ≤ cap) (hcm : cap ≤ 9223372036854775807) (hZ : IntsAt w xa z) :
    Calls Try.prog 6 #[.agg #[.slice a G.length c], .slice xa len cap] w fun e w' => e = .returned (.bool true) ∧ Below w.heap.size w w' := by
  obtain ⟨i0, hi0, hz0, hz1, hz2⟩ := info_parts infoCell
  have hN := hR.few
  have hg : gcheckE G = 0 := gcheck_zero.2 hR
  have hRC := hR.copy
  have hcc := copy_copy hR.kids
  have D : Hid (∀ W, ClsAt W a G → Calls Try.prog 16 #[.agg #[.slice a G.length c]] W fun e w' => ∃ v, e = .returned (.tuple #[.agg #[v], .int .i64 0]) ∧ Below W.heap.size W w' ∧ ∃ K, OwnC W.heap.size (copyF G) K v w') := fun W hW => by
    refine (copy_any a c G W (by omega) hR.big hW).mono ?_
    rintro e w' ⟨v, rfl, hb, K, hown⟩
    rw [show resF G = copyF G from if_pos hg] at hown
    exact ⟨v, by rw [hg], hb, K, hown⟩
  have LF : Hid (∀ L Mo, Right L → L = copyF G ++ Mo → ((copyF G).length = 0 → Mo = []) → copyF L = copyF G) := fun L Mo h1 h2 h3 => by
    by_cases h0 : (copyF G).length = 0
    · rw [h2, h3 h0, List.append_nil]; exact hcc
    · rw [h2, copy_more Mo hRC.kids (by omega)]; exact hcc
  have DD : Hid (∀ L va vc W, Right L → copyF L = copyF G → ClsAt W va L → Calls Try.prog 16 #[.agg #[.slice va L.length vc]] W fun e w' => ∃ va vc, e = .returned (.tuple #[.agg #[.slice va (copyF G).length vc], .int .i64 0]) ∧ Below W.heap.size W w' ∧ ClsAt w' va (copyF G)) := fun L va vc W h1 h2 hW => by
    have hl : gcheckE L = 0 := gcheck_zero.2 h1
    refine (copy_any va vc L W (by have := h1.few; omega) h1.big hW).mono ?_
    rintro e w' ⟨v, rfl, hb, K, hown⟩
    rw [show resF L = copyF G from (if_pos hl).trans h2] at hown
    obtain ⟨va, vc, rfl, hc⟩ := hown.cls
    exact ⟨va, vc, by rw [hl], hb, hc⟩
  have DL : Hid (∀ L va vc W, Right L → copyF L = copyF G → ClsAt W a G → ClsAt W va L → Calls Try.prog 17 #[.agg #[.slice a G.length c], .agg #[.slice va L.length vc]] W fun e w' => e = .returned (.tuple #[.bool true, .int .i64 0]) ∧ Below W.heap.size W w') := fun L va vc W h1 h2 h3 h4 => by
    have hl : likeE G L = 0 := by unfold likeE; rw [if_pos hg]; exact gcheck_zero.2 h1
    refine (like_any a va c vc G L W (by omega) (by have := h1.few; omega) hR.big h1.big h3 h4).mono ?_
    rintro e w' ⟨r, rfl, hb, hr⟩
    exact ⟨by rw [hr.2 ⟨hl, h2.symm⟩, hl], hb⟩
  have DS : Hid (∀ va vc va' vc' W, ClsAt W va (copyF G) → ClsAt W va' (copyF G) → Calls Try.prog 22 #[.agg #[.slice va (copyF G).length vc], .agg #[.slice va' (copyF G).length vc']] W fun e w' => e = .returned (.bool true) ∧ Below W.heap.size W w') := fun va vc va' vc' W h1 h2 => by
    refine (gsame_any va va' vc vc' (copyF G) (copyF G) W (by have := hRC.few; omega) hRC.big h1 h2).mono ?_
    rintro e w' ⟨r, rfl, hb, hr⟩
    exact ⟨by rw [hr.2 rfl], hb⟩
  have hCf := hRC.few
  have DCL : Hid (∀ B K v W, OwnC B (copyF G) K v W → Calls _ _ _ _ _) := fun B K v W h => cloneCells_any B (copyF G) K v W (by omega) h
  have DC : Hid ClonedOk := cloned_ok
  have HS : Hid (ClsAt w a G) := hS
  have HZ : Hid (IntsAt w xa z) := hZ
  have HLEN : Hid (z.length = len) := hlen
  have HRC : Hid (Right (copyF G)) := hRC
  clear hS hZ hR hRC hg hcc hlen
  generalize copyF G = C at *
  generalize G.length = n at *
  obtain ⟨m, hm⟩ : ∃ m, C.length = m := ⟨_, rfl⟩
  have HM : Hid (C.length = m) := hm
  rw [hm] at DD DS hCf LF
  clear hm
  go_enter Try.func6, Try.ntmps6
  go_wp2_with fail
  refine Calls.mono (D.out _ (HS.out.below (one_belowS _ _))) ?_
  rintro e w1 ⟨v, rfl, hb, K, hown⟩
  have hs1 := hb.size
  simp only [World.size_alloc] at hs1 hown
  obtain ⟨va, vc, hv, hcl⟩ := hown.cls
  rw [HM.out] at hv
  subst hv
  have l0 := keepC (alloc_cell w #[.slice a n c] 47 0 rfl) hb
  have HB : Hid (Below w.heap.size w w1) := (one_belowS w _).trans (hb.mono (by simp))
  have HO1 : Hid (OwnC (w.heap.size + 1) C K (.slice va m vc) w1) := hown
  clear hb hown hcl D
  have l0' := keepC l0 (one_belowS w1 (.cells #[.slice va m vc] 47))
  have l1' := alloc_cell w1 #[.slice va m vc] 47 0 (v := .slice va m vc) rfl
  go_wp2_with fail
  refine Calls.mono (DC.out _) ?_
  rintro e w2 ⟨rfl, hb⟩
  have HB2 : Hid (Below w.heap.size w w2) := (HB.out.trans ((one_belowS _ _).mono HB.out.size)).trans (hb.mono (by have := HB.out.size; simp; omega))
  have HO2 : Hid (OwnC (w.heap.size + 1) C K (.slice va m vc) w2) := (HO1.out.below (one_belowS _ _)).below hb
  have m0 := keepC l0' hb
  have m1 := keepC l1' hb
  have HC2 : Hid (ClsAt w2 va C) := by
    obtain ⟨qa, qc, e, h⟩ := HO2.out.cls
    cases e
    exact h
  have z0 := World.block_lt_of_cell? _ _ m0
  have z1 := World.block_lt_of_cell? _ _ m1
  clear hb l0 l0' l1' HO1 DC
  go_wp2_with fail
  refine Calls.mono (DCL.out (w.heap.size + 1) K (.slice va m vc) _ HO2.out) ?_
  rintro e w3 ⟨v2, rfl, hb, hown2⟩
  obtain ⟨ha, hc, hv2, _⟩ := (hown2.one (by have := HB2.out.size; omega)).cls
  rw [HM.out] at hv2
  subst hv2
  have HB3 : Hid (Below w2.heap.size w2 w3) := hb
  have HOH : Hid (OwnC2 w2.heap.size (w.heap.size + 1) C K (.slice ha m hc) w3) := hown2
  have hs3 := hb.size
  clear hb hown2 DCL HO2
  have B0 : Hid ((w3.alloc (.cells #[.slice ha m hc] 47)).heap[w3.heap.size]? = some (.cells #[.slice ha m hc] 47 (0, 0))) := heap_alloc_new w3 _
  have OH0 : Hid (OwnC2 w2.heap.size (w.heap.size + 1) C K (.slice ha m hc) (w3.alloc (.cells #[.slice ha m hc] 47))) := HOH.out.below (one_belowS _ _)
  have HB4 : Hid (Below w2.heap.size w2 (w3.alloc (.cells #[.slice ha m hc] 47))) := HB3.out.trans ((one_belowS w3 _).mono hs3)
  by_cases hl10 : len ≤ 10
  · have hl51 : ¬ (10 : Int) < (len : Int) := by omega
    have hl52 : (len : Int) ≤ 10 := by omega
    go_wp2_with fail
    go_loopg [35] len (fun g s35 wr => ∃ (j : Nat) (L Mo : List Cl) (K2 : Nat → Value) (ha2 : Option Addr) (hc2 : Nat), j ≤ len ∧ len - j ≤ g ∧ s35 = .int .i64 j ∧ wr.heap[w3.heap.size]? = some (.cells #[.slice ha2 L.length hc2] 47 (0, 0)) ∧ Hid (OwnC2 w2.heap.size (w.heap.size + 1) L K2 (.slice ha2 L.length hc2) wr) ∧ Hid (Right L) ∧ Hid (L = C ++ Mo) ∧ Hid (m = 0 → Mo = []) ∧ Hid (Below w2.heap.size w2 wr))
    case atStart => exact ⟨0, C, [], K, ha, hc, by omega, by omega, rfl, (by rw [HM.out]; exact B0.out), (by rw [HM.out]; exact OH0), HRC, (by exact (List.append_nil C).symm : C = C ++ []), (fun _ => rfl), HB4⟩
    case round =>
      obtain ⟨j, L, Mo, K2, ha2, hc2, hj, hgk, rfl, y0, HOW, HRL, HLM, HC0, HBr⟩ := hrel
      clear B0 OH0 HB4
      have HBW : Hid (Below w.heap.size w wr) := HB2.out.trans (HBr.out.mono HB2.out.size)
      have n0 := keepC m0 HBr.out
      have n1 := keepC m1 HBr.out
      have q0 := World.block_lt_of_cell? _ _ n0
      have q1 := World.block_lt_of_cell? _ _ n1
      by_cases hlt : j < len
      · have hlt2 : (j : Int) < (len : Int) := by omega
        obtain ⟨zb, zo, ez, hzc⟩ := (HZ.out.below HBW.out) j (by rw [HLEN.out]; omega)
        subst ez
        generalize z.getD j 0 = zz at *
        have hfew := HRL.out.few
        by_cases h24 : L.length = 24
        · have t24 : ((L.length : Int) == 24) = true := by simp; omega
          have t25 : decide ((L.length : Int) = 24) = true := decide_eq_true (by omega)
          have t26 : (L.length : Int) = 24 := by omega
          clear h24 hfew
          have LFL : Hid (copyF L = C) := LF.out L Mo HRL.out HLM.out HC0.out
          have HCL : Hid (ClsAt wr ha2 L) := by
            obtain ⟨qa, qc, e, h⟩ := (HOW.out.one (by have := HB2.out.size; omega)).cls
            cases e
            exact h
          have HCC : Hid (ClsAt wr va C) := HC2.out.below HBr.out
          have bh := box_cell y0
          have q7 := World.block_lt_of_cell? _ _ bh
          have DDL : Hid _ := DD.out L ha2 hc2 wr HRL.out LFL.out HCL.out
          have DLL : Hid (∀ W, ClsAt W a G → ClsAt W ha2 L → Calls _ _ _ _ _) := fun W => DL.out L ha2 hc2 W HRL.out LFL.out
          obtain ⟨ll, hll⟩ : ∃ q, L.length = q := ⟨_, rfl⟩
          rw [hll] at DDL DLL bh t24 t25 t26
          clear hll y0
          go_wp2_with fail
          refine Calls.mono DDL.out ?_
          rintro e w6 ⟨va6, vc6, rfl, hb, hcl6⟩
          have HB6 : Hid (Below w.heap.size w w6) := HBW.out.trans (hb.mono HBW.out.size)
          have HC6 : Hid (ClsAt w6 va C) := HCC.out.below hb
          have HL6 : Hid (ClsAt w6 ha2 L) := HCL.out.below hb
          have HD6 : Hid (ClsAt w6 va6 C) := hcl6
          have p0 := keepC n0 hb
          have p1 := keepC n1 hb
          have p7 := keepC bh hb
          have p0' := keepC p0 (one_belowS w6 (.cells #[.slice va6 m vc6] 47))
          have p1' := keepC p1 (one_belowS w6 (.cells #[.slice va6 m vc6] 47))
          have p7' := keepC p7 (one_belowS w6 (.cells #[.slice va6 m vc6] 47))
          have p6' := alloc_cell w6 #[.slice va6 m vc6] 47 0 (v := .slice va6 m vc6) rfl
          have x0 := World.block_lt_of_cell? _ _ p0
          have x1 := World.block_lt_of_cell? _ _ p1
          have x7 := World.block_lt_of_cell? _ _ p7
          clear hb hcl6 n0 n1 bh
          go_wp2_with fail
          refine Calls.mono (DLL.out _ (HS.out.below (HB6.out.trans ((one_belowS _ _).mono HB6.out.size))) (HL6.out.below (one_belowS _ _))) ?_
          rintro e w7 ⟨rfl, hb⟩
          have HB7 : Hid (Below w.heap.size w w7) := (HB6.out.trans ((one_belowS _ _).mono HB6.out.size)).trans (hb.mono (by have := HB6.out.size; simp; omega))
          have HC7 : Hid (ClsAt w7 va C) := (HC6.out.below (one_belowS _ _)).below hb
          have HD7 : Hid (ClsAt w7 va6 C) := (HD6.out.below (one_belowS _ _)).below hb
          have r1 := keepC p1' hb
          have r6 := keepC p6' hb
          clear hb p0 p1 p7 p0' p1' p7' p6' x0 x1 x7
          go_wp2_with fail
          refine Calls.mono (DS.out va vc va6 vc6 _ HC7.out HD7.out) ?_
          rintro e w8 ⟨rfl, hb⟩
          have HB8 : Hid (Below w.heap.size w w8) := HB7.out.trans (hb.mono HB7.out.size)
          clear hb
          go_wp2_with fail
          go_ret
          exact ⟨rfl, HB8.out⟩
        · by_cases hm0 : m = 0
          · have t24 : ((L.length : Int) == 24) = false := by simp; omega
            have t25 : decide ((L.length : Int) = 24) = false := decide_eq_false (by omega)
            have t26 : ¬ (L.length : Int) = 24 := by omega
            have t27 : ((m : Int) == 0) = true := by simp; omega
            have t28 : decide ((m : Int) = 0) = true := decide_eq_true (by omega)
            have t29 : (m : Int) = 0 := by omega
            clear h24 hfew hm0
            have LFL : Hid (copyF L = C) := LF.out L Mo HRL.out HLM.out HC0.out
            have HCL : Hid (ClsAt wr ha2 L) := by
              obtain ⟨qa, qc, e, h⟩ := (HOW.out.one (by have := HB2.out.size; omega)).cls
              cases e
              exact h
            have HCC : Hid (ClsAt wr va C) := HC2.out.below HBr.out
            have bh := box_cell y0
            have q7 := World.block_lt_of_cell? _ _ bh
            have DDL : Hid _ := DD.out L ha2 hc2 wr HRL.out LFL.out HCL.out
            have DLL : Hid (∀ W, ClsAt W a G → ClsAt W ha2 L → Calls _ _ _ _ _) := fun W => DL.out L ha2 hc2 W HRL.out LFL.out
            obtain ⟨ll, hll⟩ : ∃ q, L.length = q := ⟨_, rfl⟩
            rw [hll] at DDL DLL bh t24 t25 t26
            clear hll y0
            go_wp2_with fail
            refine Calls.mono DDL.out ?_
            rintro e w6 ⟨va6, vc6, rfl, hb, hcl6⟩
            have HB6 : Hid (Below w.heap.size w w6) := HBW.out.trans (hb.mono HBW.out.size)
            have HC6 : Hid (ClsAt w6 va C) := HCC.out.below hb
            have HL6 : Hid (ClsAt w6 ha2 L) := HCL.out.below hb
            have HD6 : Hid (ClsAt w6 va6 C) := hcl6
            have p0 := keepC n0 hb
            have p1 := keepC n1 hb
            have p7 := keepC bh hb
            have p0' := keepC p0 (one_belowS w6 (.cells #[.slice va6 m vc6] 47))
            have p1' := keepC p1 (one_belowS w6 (.cells #[.slice va6 m vc6] 47))
            have p7' := keepC p7 (one_belowS w6 (.cells #[.slice va6 m vc6] 47))
            have p6' := alloc_cell w6 #[.slice va6 m vc6] 47 0 (v := .slice va6 m vc6) rfl
            have x0 := World.block_lt_of_cell? _ _ p0
            have x1 := World.block_lt_of_cell? _ _ p1
            have x7 := World.block_lt_of_cell? _ _ p7
            clear hb hcl6 n0 n1 bh
            go_wp2_with fail
            refine Calls.mono (DLL.out _ (HS.out.below (HB6.out.trans ((one_belowS _ _).mono HB6.out.size))) (HL6.out.below (one_belowS _ _))) ?_
            rintro e w7 ⟨rfl, hb⟩
            have HB7 : Hid (Below w.heap.size w w7) := (HB6.out.trans ((one_belowS _ _).mono HB6.out.size)).trans (hb.mono (by have := HB6.out.size; simp; omega))
            have HC7 : Hid (ClsAt w7 va C) := (HC6.out.below (one_belowS _ _)).below hb
            have HD7 : Hid (ClsAt w7 va6 C) := (HD6.out.below (one_belowS _ _)).below hb
            have r1 := keepC p1' hb
            have r6 := keepC p6' hb
            clear hb p0 p1 p7 p0' p1' p7' p6' x0 x1 x7
            go_wp2_with fail
            refine Calls.mono (DS.out va vc va6 vc6 _ HC7.out HD7.out) ?_
            rintro e w8 ⟨rfl, hb⟩
            have HB8 : Hid (Below w.heap.size w w8) := HB7.out.trans (hb.mono HB7.out.size)
            clear hb
            go_wp2_with fail
            go_ret
            exact ⟨rfl, HB8.out⟩
          · have hl23 : L.length < 24 := by omega
            obtain ⟨p, hp, hat1⟩ := at_inC zz 1000 (by omega) (by omega)
            obtain ⟨q, hq, hat2⟩ := at_inC zz (L.length + 1) (by omega) (by omega)
            have e9 : ((L.length + 1 : Nat) : Int) = (L.length : Int) + 1 := by omega
            rw [e9] at hat2
            obtain ⟨Q, hQ⟩ : ∃ Q, (L.length : Int) + 1 = Q := ⟨_, rfl⟩
            have hQ1 : (1 : Int) ≤ Q ∧ Q ≤ 24 := by omega
            have hwr : IntKind.i64.wrap ((L.length : Int) + 1) = Q := by rw [hQ]; have := hQ1; unfold IntKind.wrap; simp [IntKind.bits, IntKind.signed]; omega
            rw [hQ] at hat2
            have AT1 : Hid _ := hat1
            have AT2 : Hid _ := hat2
            have RG : Hid (Right (L ++ [⟨(p : Int), [(q : Int)]⟩])) := HRL.out.grow hl23 hp hq
            have NOTB := box_row y0 HOW.out.1 (by decide)
            have bh := box_cell y0
            have t24 : ((L.length : Int) == 24) = false := by simp; omega
            have t25 : decide ((L.length : Int) = 24) = false := decide_eq_false (by omega)
            have t26 : ¬ (L.length : Int) = 24 := by omega
            have t27 : ((m : Int) == 0) = false := by simp; omega
            have t28 : decide ((m : Int) = 0) = false := decide_eq_false (by omega)
            have t29 : ¬ (m : Int) = 0 := by omega
            have HNB : Hid _ := NOTB
            clear hat1 hat2 e9 NOTB h24 hQ
            obtain ⟨ll, hll⟩ : ∃ q, L.length = q := ⟨_, rfl⟩
            have HLL : Hid (L.length = ll) := hll
            rw [hll] at hwr bh t24 t25 t26 hl23 hq hfew y0 HOW HNB
            clear hll
            have ne1 := World.new_ne wr _ bh
            have qb := World.block_lt_of_cell? _ _ bh
            have wsz : wr.heap.size = wr.drew.heap.size := rfl
            clear wsz
            go_wp2_with fail
            refine wp_region_noPanic ?_
            refine wp_region_X (S := fun w'' => w''.cell? ⟨w3.heap.size, 0, none⟩ = some (.slice ha2 ll hc2)) 15 (by kernel_rfl) (by (try dsimp only); go_keep) (fun hHeld => ?_)
            refine wpAnyX_take (i := 0) (v := ?_) rfl (by kernel_rfl) (by kernel_rfl) (by kernel_rfl) (by kernel_rfl) (fun _ _ _ h => h) (Or.inl ⟨by rfl, ?_⟩) (by assumption) ?_
            rotate_left
            · intro w hSw; (try dsimp only at hSw); first | (go_simp; done) | (go_simp; with_reducible rfl)
            simp [Act.put]
            refine wpAnyX_take (i := 1) (v := ?_) rfl (by kernel_rfl) (by kernel_rfl) (by kernel_rfl) (by kernel_rfl) (fun _ _ _ h => h) (Or.inl ⟨by rfl, ?_⟩) (by assumption) ?_
            rotate_left
            · intro w hSw; (try dsimp only at hSw); first | (go_simp; done) | (go_simp; with_reducible rfl)
            simp [Act.put]
            refine wpAnyX_take (i := 2) (v := ?_) rfl (by kernel_rfl) (by kernel_rfl) (by kernel_rfl) (by kernel_rfl) (fun _ _ _ h => h) (Or.inl ⟨by rfl, ?_⟩) (by assumption) ?_
            rotate_left
            · intro w hSw; (try dsimp only at hSw); first | (go_simp; done) | (go_simp; with_reducible rfl)
            simp [Act.put]
            refine wpAnyX_take (i := 4) (v := ?_) rfl (by kernel_rfl) (by kernel_rfl) (by kernel_rfl) (by kernel_rfl) (fun _ _ _ h => h) (Or.inl ⟨by rfl, ?_⟩) (by assumption) ?_
            rotate_left
            · intro w hSw; (try dsimp only at hSw); first | (go_simp; done) | (go_simp; with_reducible rfl)
            simp [Act.put]
            refine wpAnyX_take (i := 5) (v := ?_) rfl (by kernel_rfl) (by kernel_rfl) (by kernel_rfl) (by kernel_rfl) (fun _ _ _ h => h) (Or.inl ⟨by rfl, ?_⟩) (by assumption) ?_
            rotate_left
            · intro w hSw; (try dsimp only at hSw); first | (go_simp; done) | (go_simp; with_reducible rfl)
            simp [Act.put]
            refine wpAnyX_take (i := 6) (v := ?_) rfl (by kernel_rfl) (by kernel_rfl) (by kernel_rfl) (by kernel_rfl) (fun _ _ _ h => h) (Or.inl ⟨by rfl, ?_⟩) (by assumption) ?_
            rotate_left
            · intro w hSw; (try dsimp only at hSw); first | (go_simp; done) | (go_simp; with_reducible rfl)
            simp [Act.put]
            refine wpAnyX_take (i := 7) (v := ?_) rfl (by kernel_rfl) (by kernel_rfl) (by kernel_rfl) (by kernel_rfl) (fun _ _ _ h => h) (Or.inl ⟨by rfl, ?_⟩) (by assumption) ?_
            rotate_left
            · intro w hSw; (try dsimp only at hSw); first | (go_simp; done) | (go_simp; with_reducible rfl)
            simp [Act.put]
            refine wpAnyX_take (i := 8) (v := ?_) rfl (by kernel_rfl) (by kernel_rfl) (by kernel_rfl) (by kernel_rfl) (fun _ _ _ h => h) (Or.inl ⟨by rfl, ?_⟩) (by assumption) ?_
            rotate_left
            · intro w hSw; (try dsimp only at hSw); first | (go_simp; done) | (go_simp; with_reducible rfl)
            simp [Act.put]
            refine wpAnyX_one (i := 3) (by kernel_rfl) rfl (fun K hK => ?_)
            go_simp
            refine Calls.mono (AT1.out _) ?_
            rintro e w' ⟨rfl, hw'⟩
            subst hw'
            go_wp2_with fail
            refine hK.out _ _ ?_ (fun hHeld => ?_)
            · (try dsimp only)
              first | go_keep | assumption
            clear hK K
            try simp [Act.put]
            refine wpAnyX_one (i := 9) (by kernel_rfl) rfl (fun K hK => ?_)
            go_simp
            refine Calls.mono (AT2.out _) ?_
            rintro e w' ⟨rfl, hw'⟩
            subst hw'
            go_wp2_with fail
            refine hK.out _ _ ?_ (fun hHeld => ?_)
            · (try dsimp only)
              first | go_keep | assumption
            clear hK K
            try simp [Act.put]
            refine wpAnyX_one (i := 10) (by kernel_rfl) rfl (fun K hK => ?_)
            go_simp
            refine hK.out _ _ ?_ (fun hHeld => ?_)
            · (try dsimp only)
              first | exact keepC bh (one_belowS wr.drew _) | go_keep | assumption
            clear hK K
            try simp [Act.put]
            refine wpAnyX_take (i := 11) (v := ?_) rfl (by kernel_rfl) (by kernel_rfl) (by kernel_rfl) (by kernel_rfl) (fun _ _ _ h => h) (Or.inl ⟨by rfl, ?_⟩) (by assumption) ?_
            rotate_left
            · intro w hSw; (try dsimp only at hSw); first | (go_simp; done) | (go_simp; with_reducible rfl)
            simp [Act.put]
            refine wpAnyX_one (i := 12) (by kernel_rfl) rfl (fun K hK => ?_)
            go_simp
            refine hK.out _ _ ?_ (fun hHeld => ?_)
            · (try dsimp only)
              first | exact keepC (keepC bh (one_belowS wr.drew _)) (one_belowS _ _) | go_keep | assumption
            clear hK K
            try simp [Act.put]
            refine wpAnyX_one (i := 13) (by kernel_rfl) rfl (fun K hK => ?_)
            refine step_append_ownC rfl (.tmp 50) (.tmp 61) 45 rfl w2.heap.size 56 i0 (.agg #[.int .i64 0, .slice none 0 0]) 2 32 Try.underlying45 hi0 hz0 hz1 hz2 rfl (by decide) (.slice ha2 ll hc2) ll (ccells L K2) rfl ?own ⟨wr.heap.size + 1, 0, none⟩ 1 1 (ccell ⟨(p : Int), [(q : Int)]⟩ (.slice (some ⟨wr.heap.size, 0, none⟩) 1 1)) rfl rfl (news2 (by go_simp) (by go_simp)) one2 (by unfold maxLen; omega) (by omega) (by have := HBr.out.size; simp; omega) ?_
            case own => exact (by have h := HOW.out.1; rw [HLL.out] at h; exact (h.alloc _).alloc _)
            intro v5 w5 own5 grow5'
            have grow5 : ((wr.alloc (.cells #[.int .i64 (q : Int)] 3)).alloc (.cells #[.int .i64 (p : Int), .slice (some ⟨wr.heap.size, 0, none⟩) 1 1] 56)).grownBy w5 (Value.slice ha2 ll hc2).ownBlock := ⟨grow5'.os, grow5'.tape, grow5'.output, grow5'.size, grow5'.block⟩
            clear grow5'
            have hs5 := grow5.size
            simp only [World.size_alloc] at hs5
            have far5 : ∀ i, i < wr.heap.size → (Value.slice ha2 ll hc2).ownBlock ≠ some i → w5.heap[i]? = wr.heap[i]? := fun i h1 h2 => (grow5.block i (by simp only [World.size_alloc]; omega) (fun e => h2 e.symm)).trans ((Below.heap_alloc _ _ _ (by simp only [World.size_alloc]; omega)).trans (Below.heap_alloc _ _ _ h1))
            have Y5 := (far5 _ qb HNB.out).trans y0
            have t0 := box_cell Y5
            have f0 := box_frozen (o := 0) Y5
            have OW5 : Hid (OwnC2 w2.heap.size (w.heap.size + 1) (L ++ [⟨(p : Int), [(q : Int)]⟩]) (fun i => if i = L.length then .slice (some ⟨wr.heap.size, 0, none⟩) 1 1 else K2 i) v5 w5) := OwnC2.step (s := ⟨(p : Int), [(q : Int)]⟩) (HOW.out.below (one_belowS wr (.cells #[.int .i64 (q : Int)] 3))) (own_oneC wr _ _ (by have := HBr.out.size; omega)) grow5 (by rw [HLL.out]; exact own5)
            have HB5 : Hid (Below w2.heap.size w2 w5) := ((HBr.out.alloc HBr.out.size _).alloc (by have := HBr.out.size; simp only [World.size_alloc]; omega) _).grown grow5 (by have := HBr.out.size; simp only [World.size_alloc]; omega) (fun k hk => (HOW.out.1.lt k hk).1)
            have RF := row_form own5
            have NB5 := box_row Y5 own5 (by decide)
            clear own5 grow5 far5
            obtain ⟨g5, c5, hv5⟩ : ∃ g5 c5, v5 = .slice (some ⟨g5, 0, none⟩) (ll + 1) c5 := RF.resolve_left (fun h => by omega)
            subst hv5
            have hll5 : (L ++ [(⟨(p : Int), [(q : Int)]⟩ : Cl)]).length = ll + 1 := by rw [List.length_append, List.length_singleton, HLL.out]
            have YF : Hid ((w5.setCell ⟨w3.heap.size, 0, none⟩ (.slice (some ⟨g5, 0, none⟩) (ll + 1) c5)).heap[w3.heap.size]? = some (.cells #[.slice (some ⟨g5, 0, none⟩) (L ++ [(⟨(p : Int), [(q : Int)]⟩ : Cl)]).length c5] 47 (0, 0))) := by rw [hll5]; exact box_set Y5
            have OWF : Hid (OwnC2 w2.heap.size (w.heap.size + 1) (L ++ [⟨(p : Int), [(q : Int)]⟩]) (fun i => if i = L.length then .slice (some ⟨wr.heap.size, 0, none⟩) 1 1 else K2 i) (.slice (some ⟨g5, 0, none⟩) (L ++ [(⟨(p : Int), [(q : Int)]⟩ : Cl)]).length c5) (w5.setCell ⟨w3.heap.size, 0, none⟩ (.slice (some ⟨g5, 0, none⟩) (ll + 1) c5))) := by
              rw [hll5]
              refine OW5.out.kept (fun i _ hx => Below.heap_setCell _ _ _ _ ?_)
              intro e
              have e : i = w3.heap.size := e
              subst e
              rcases hx with h1 | ⟨i2, hi2, h1⟩
              · exact NB5 h1
              · exact box_row Y5 (OW5.out.2 i2 hi2) (by decide) h1
            have HBF : Hid (Below w2.heap.size w2 (w5.setCell ⟨w3.heap.size, 0, none⟩ (.slice (some ⟨g5, 0, none⟩) (ll + 1) c5))) := HB5.out.setCell (by show w2.heap.size ≤ w3.heap.size; exact hs3) _
            have HLMF : Hid (L ++ [(⟨(p : Int), [(q : Int)]⟩ : Cl)] = C ++ (Mo ++ [(⟨(p : Int), [(q : Int)]⟩ : Cl)])) := by show _ = _; rw [HLM.out, List.append_assoc]
            have HC0F : Hid (m = 0 → Mo ++ [(⟨(p : Int), [(q : Int)]⟩ : Cl)] = []) := fun h => by omega
            have q5 : w3.heap.size < w5.heap.size := by omega
            clear RF Y5 NB5 hll5
            refine hK.out _ _ ?_ (fun hHeld => ?_)
            · (try dsimp only)
              first | exact t0 | go_keep
            clear hK K
            try simp [Act.put]
            refine wpAnyX_take (i := 14) (v := ?_) rfl (by kernel_rfl) (by kernel_rfl) (by kernel_rfl) (by kernel_rfl) (fun _ _ _ h => h) (Or.inl ⟨by rfl, ?_⟩) (by assumption) ?_
            rotate_left
            · intro w hSw; (try dsimp only at hSw); first | (go_simp; done) | (go_simp; with_reducible rfl)
            simp [Act.put]
            refine wpAnyX_last (by kernel_rfl) rfl (fun K hK => ?_)
            go_simp
            refine hK.out _ _ ?_
            clear hK K
            try simp [Act.put]
            refine wpAnyX_done (by kernel_rfl) ?_ _
            refine NoPanic.normal ?_
            go_wp2_with fail
            go_roundg (len - (j + 1))
            case measure => omega
            case rel => exact ⟨j + 1, _, _, _, _, _, by omega, by omega, by go_num, YF.out, OWF, RG, HLMF, HC0F, HBF⟩
      · have hje : len = j := by omega
        subst hje
        have LFL : Hid (copyF L = C) := LF.out L Mo HRL.out HLM.out HC0.out
        have HCL : Hid (ClsAt wr ha2 L) := by
          obtain ⟨qa, qc, e, h⟩ := (HOW.out.one (by have := HB2.out.size; omega)).cls
          cases e
          exact h
        have HCC : Hid (ClsAt wr va C) := HC2.out.below HBr.out
        have bh := box_cell y0
        have q7 := World.block_lt_of_cell? _ _ bh
        have DDL : Hid _ := DD.out L ha2 hc2 wr HRL.out LFL.out HCL.out
        have DLL : Hid (∀ W, ClsAt W a G → ClsAt W ha2 L → Calls _ _ _ _ _) := fun W => DL.out L ha2 hc2 W HRL.out LFL.out
        obtain ⟨ll, hll⟩ : ∃ q, L.length = q := ⟨_, rfl⟩
        rw [hll] at DDL DLL bh
        clear hll y0
        go_wp2_with fail
        refine Calls.mono DDL.out ?_
        rintro e w6 ⟨va6, vc6, rfl, hb, hcl6⟩
        have HB6 : Hid (Below w.heap.size w w6) := HBW.out.trans (hb.mono HBW.out.size)
        have HC6 : Hid (ClsAt w6 va C) := HCC.out.below hb
        have HL6 : Hid (ClsAt w6 ha2 L) := HCL.out.below hb
        have HD6 : Hid (ClsAt w6 va6 C) := hcl6
        have p0 := keepC n0 hb
        have p1 := keepC n1 hb
        have p7 := keepC bh hb
        have p0' := keepC p0 (one_belowS w6 (.cells #[.slice va6 m vc6] 47))
        have p1' := keepC p1 (one_belowS w6 (.cells #[.slice va6 m vc6] 47))
        have p7' := keepC p7 (one_belowS w6 (.cells #[.slice va6 m vc6] 47))
        have p6' := alloc_cell w6 #[.slice va6 m vc6] 47 0 (v := .slice va6 m vc6) rfl
        have x0 := World.block_lt_of_cell? _ _ p0
        have x1 := World.block_lt_of_cell? _ _ p1
        have x7 := World.block_lt_of_cell? _ _ p7
        clear hb hcl6 n0 n1 bh
        go_wp2_with fail
        refine Calls.mono (DLL.out _ (HS.out.below (HB6.out.trans ((one_belowS _ _).mono HB6.out.size))) (HL6.out.below (one_belowS _ _))) ?_
        rintro e w7 ⟨rfl, hb⟩
        have HB7 : Hid (Below w.heap.size w w7) := (HB6.out.trans ((one_belowS _ _).mono HB6.out.size)).trans (hb.mono (by have := HB6.out.size; simp; omega))
        have HC7 : Hid (ClsAt w7 va C) := (HC6.out.below (one_belowS _ _)).below hb
        have HD7 : Hid (ClsAt w7 va6 C) := (HD6.out.below (one_belowS _ _)).below hb
        have r1 := keepC p1' hb
        have r6 := keepC p6' hb
        clear hb p0 p1 p7 p0' p1' p7' p6' x0 x1 x7
        go_wp2_with fail
        refine Calls.mono (DS.out va vc va6 vc6 _ HC7.out HD7.out) ?_
        rintro e w8 ⟨rfl, hb⟩
        have HB8 : Hid (Below w.heap.size w w8) := HB7.out.trans (hb.mono HB7.out.size)
        clear hb
        go_wp2_with fail
        go_ret
        exact ⟨rfl, HB8.out⟩
  · have hl51 : (10 : Int) < (len : Int) := by omega
    go_wp2_with fail
    go_loopg [35] 10 (fun g s35 wr => ∃ (j : Nat) (L Mo : List Cl) (K2 : Nat → Value) (ha2 : Option Addr) (hc2 : Nat), j ≤ 10 ∧ 10 - j ≤ g ∧ s35 = .int .i64 j ∧ wr.heap[w3.heap.size]? = some (.cells #[.slice ha2 L.length hc2] 47 (0, 0)) ∧ Hid (OwnC2 w2.heap.size (w.heap.size + 1) L K2 (.slice ha2 L.length hc2) wr) ∧ Hid (Right L) ∧ Hid (L = C ++ Mo) ∧ Hid (m = 0 → Mo = []) ∧ Hid (Below w2.heap.size w2 wr))
    case atStart => exact ⟨0, C, [], K, ha, hc, by omega, by omega, rfl, (by rw [HM.out]; exact B0.out), (by rw [HM.out]; exact OH0), HRC, (by exact (List.append_nil C).symm : C = C ++ []), (fun _ => rfl), HB4⟩
    case round =>
      obtain ⟨j, L, Mo, K2, ha2, hc2, hj, hgk, rfl, y0, HOW, HRL, HLM, HC0, HBr⟩ := hrel
      clear B0 OH0 HB4
      have HBW : Hid (Below w.heap.size w wr) := HB2.out.trans (HBr.out.mono HB2.out.size)
      have n0 := keepC m0 HBr.out
      have n1 := keepC m1 HBr.out
      have q0 := World.block_lt_of_cell? _ _ n0
      have q1 := World.block_lt_of_cell? _ _ n1
      by_cases hlt : j < 10
      · have hlt2 : (j : Int) < (10 : Int) := by omega
        obtain ⟨zb, zo, ez, hzc⟩ := (HZ.out.below HBW.out) j (by rw [HLEN.out]; omega)
        subst ez
        generalize z.getD j 0 = zz at *
        have hfew := HRL.out.few
        by_cases h24 : L.length = 24
        · have t24 : ((L.length : Int) == 24) = true := by simp; omega
          have t25 : decide ((L.length : Int) = 24) = true := decide_eq_true (by omega)
          have t26 : (L.length : Int) = 24 := by omega
          clear h24 hfew
          have LFL : Hid (copyF L = C) := LF.out L Mo HRL.out HLM.out HC0.out
          have HCL : Hid (ClsAt wr ha2 L) := by
            obtain ⟨qa, qc, e, h⟩ := (HOW.out.one (by have := HB2.out.size; omega)).cls
            cases e
            exact h
          have HCC : Hid (ClsAt wr va C) := HC2.out.below HBr.out
          have bh := box_cell y0
          have q7 := World.block_lt_of_cell? _ _ bh
          have DDL : Hid _ := DD.out L ha2 hc2 wr HRL.out LFL.out HCL.out
          have DLL : Hid (∀ W, ClsAt W a G → ClsAt W ha2 L → Calls _ _ _ _ _) := fun W => DL.out L ha2 hc2 W HRL.out LFL.out
          obtain ⟨ll, hll⟩ : ∃ q, L.length = q := ⟨_, rfl⟩
          rw [hll] at DDL DLL bh t24 t25 t26
          clear hll y0
          go_wp2_with fail
          refine Calls.mono DDL.out ?_
          rintro e w6 ⟨va6, vc6, rfl, hb, hcl6⟩
          have HB6 : Hid (Below w.heap.size w w6) := HBW.out.trans (hb.mono HBW.out.size)
          have HC6 : Hid (ClsAt w6 va C) := HCC.out.below hb
          have HL6 : Hid (ClsAt w6 ha2 L) := HCL.out.below hb
          have HD6 : Hid (ClsAt w6 va6 C) := hcl6
          have p0 := keepC n0 hb
          have p1 := keepC n1 hb
          have p7 := keepC bh hb
          have p0' := keepC p0 (one_belowS w6 (.cells #[.slice va6 m vc6] 47))
          have p1' := keepC p1 (one_belowS w6 (.cells #[.slice va6 m vc6] 47))
          have p7' := keepC p7 (one_belowS w6 (.cells #[.slice va6 m vc6] 47))
          have p6' := alloc_cell w6 #[.slice va6 m vc6] 47 0 (v := .slice va6 m vc6) rfl
          have x0 := World.block_lt_of_cell? _ _ p0
          have x1 := World.block_lt_of_cell? _ _ p1
          have x7 := World.block_lt_of_cell? _ _ p7
          clear hb hcl6 n0 n1 bh
          go_wp2_with fail
          refine Calls.mono (DLL.out _ (HS.out.below (HB6.out.trans ((one_belowS _ _).mono HB6.out.size))) (HL6.out.below (one_belowS _ _))) ?_
          rintro e w7 ⟨rfl, hb⟩
          have HB7 : Hid (Below w.heap.size w w7) := (HB6.out.trans ((one_belowS _ _).mono HB6.out.size)).trans (hb.mono (by have := HB6.out.size; simp; omega))
          have HC7 : Hid (ClsAt w7 va C) := (HC6.out.below (one_belowS _ _)).below hb
          have HD7 : Hid (ClsAt w7 va6 C) := (HD6.out.below (one_belowS _ _)).below hb
          have r1 := keepC p1' hb
          have r6 := keepC p6' hb
          clear hb p0 p1 p7 p0' p1' p7' p6' x0 x1 x7
          go_wp2_with fail
          refine Calls.mono (DS.out va vc va6 vc6 _ HC7.out HD7.out) ?_
          rintro e w8 ⟨rfl, hb⟩
          have HB8 : Hid (Below w.heap.size w w8) := HB7.out.trans (hb.mono HB7.out.size)
          clear hb
          go_wp2_with fail
          go_ret
          exact ⟨rfl, HB8.out⟩
        · by_cases hm0 : m = 0
          · have t24 : ((L.length : Int) == 24) = false := by simp; omega
            have t25 : decide ((L.length : Int) = 24) = false := decide_eq_false (by omega)
            have t26 : ¬ (L.length : Int) = 24 := by omega
            have t27 : ((m : Int) == 0) = true := by simp; omega
            have t28 : decide ((m : Int) = 0) = true := decide_eq_true (by omega)
            have t29 : (m : Int) = 0 := by omega
            clear h24 hfew hm0
            have LFL : Hid (copyF L = C) := LF.out L Mo HRL.out HLM.out HC0.out
            have HCL : Hid (ClsAt wr ha2 L) := by
              obtain ⟨qa, qc, e, h⟩ := (HOW.out.one (by have := HB2.out.size; omega)).cls
              cases e
              exact h
            have HCC : Hid (ClsAt wr va C) := HC2.out.below HBr.out
            have bh := box_cell y0
            have q7 := World.block_lt_of_cell? _ _ bh
            have DDL : Hid _ := DD.out L ha2 hc2 wr HRL.out LFL.out HCL.out
            have DLL : Hid (∀ W, ClsAt W a G → ClsAt W ha2 L → Calls _ _ _ _ _) := fun W => DL.out L ha2 hc2 W HRL.out LFL.out
            obtain ⟨ll, hll⟩ : ∃ q, L.length = q := ⟨_, rfl⟩
            rw [hll] at DDL DLL bh t24 t25 t26
            clear hll y0
            go_wp2_with fail
            refine Calls.mono DDL.out ?_
            rintro e w6 ⟨va6, vc6, rfl, hb, hcl6⟩
            have HB6 : Hid (Below w.heap.size w w6) := HBW.out.trans (hb.mono HBW.out.size)
            have HC6 : Hid (ClsAt w6 va C) := HCC.out.below hb
            have HL6 : Hid (ClsAt w6 ha2 L) := HCL.out.below hb
            have HD6 : Hid (ClsAt w6 va6 C) := hcl6
            have p0 := keepC n0 hb
            have p1 := keepC n1 hb
            have p7 := keepC bh hb
            have p0' := keepC p0 (one_belowS w6 (.cells #[.slice va6 m vc6] 47))
            have p1' := keepC p1 (one_belowS w6 (.cells #[.slice va6 m vc6] 47))
            have p7' := keepC p7 (one_belowS w6 (.cells #[.slice va6 m vc6] 47))
            have p6' := alloc_cell w6 #[.slice va6 m vc6] 47 0 (v := .slice va6 m vc6) rfl
            have x0 := World.block_lt_of_cell? _ _ p0
            have x1 := World.block_lt_of_cell? _ _ p1
            have x7 := World.block_lt_of_cell? _ _ p7
            clear hb hcl6 n0 n1 bh
            go_wp2_with fail
            refine Calls.mono (DLL.out _ (HS.out.below (HB6.out.trans ((one_belowS _ _).mono HB6.out.size))) (HL6.out.below (one_belowS _ _))) ?_
            rintro e w7 ⟨rfl, hb⟩
            have HB7 : Hid (Below w.heap.size w w7) := (HB6.out.trans ((one_belowS _ _).mono HB6.out.size)).trans (hb.mono (by have := HB6.out.size; simp; omega))
            have HC7 : Hid (ClsAt w7 va C) := (HC6.out.below (one_belowS _ _)).below hb
            have HD7 : Hid (ClsAt w7 va6 C) := (HD6.out.below (one_belowS _ _)).below hb
            have r1 := keepC p1' hb
            have r6 := keepC p6' hb
            clear hb p0 p1 p7 p0' p1' p7' p6' x0 x1 x7
            go_wp2_with fail
            refine Calls.mono (DS.out va vc va6 vc6 _ HC7.out HD7.out) ?_
            rintro e w8 ⟨rfl, hb⟩
            have HB8 : Hid (Below w.heap.size w w8) := HB7.out.trans (hb.mono HB7.out.size)
            clear hb
            go_wp2_with fail
            go_ret
            exact ⟨rfl, HB8.out⟩
          · have hl23 : L.length < 24 := by omega
            obtain ⟨p, hp, hat1⟩ := at_inC zz 1000 (by omega) (by omega)
            obtain ⟨q, hq, hat2⟩ := at_inC zz (L.length + 1) (by omega) (by omega)
            have e9 : ((L.length + 1 : Nat) : Int) = (L.length : Int) + 1 := by omega
            rw [e9] at hat2
            obtain ⟨Q, hQ⟩ : ∃ Q, (L.length : Int) + 1 = Q := ⟨_, rfl⟩
            have hQ1 : (1 : Int) ≤ Q ∧ Q ≤ 24 := by omega
            have hwr : IntKind.i64.wrap ((L.length : Int) + 1) = Q := by rw [hQ]; have := hQ1; unfold IntKind.wrap; simp [IntKind.bits, IntKind.signed]; omega
            rw [hQ] at hat2
            have AT1 : Hid _ := hat1
            have AT2 : Hid _ := hat2
            have RG : Hid (Right (L ++ [⟨(p : Int), [(q : Int)]⟩])) := HRL.out.grow hl23 hp hq
            have NOTB := box_row y0 HOW.out.1 (by decide)
            have bh := box_cell y0
            have t24 : ((L.length : Int) == 24) = false := by simp; omega
            have t25 : decide ((L.length : Int) = 24) = false := decide_eq_false (by omega)
            have t26 : ¬ (L.length : Int) = 24 := by omega
            have t27 : ((m : Int) == 0) = false := by simp; omega
            have t28 : decide ((m : Int) = 0) = false := decide_eq_false (by omega)
            have t29 : ¬ (m : Int) = 0 := by omega
            have HNB : Hid _ := NOTB
            clear hat1 hat2 e9 NOTB h24 hQ
            obtain ⟨ll, hll⟩ : ∃ q, L.length = q := ⟨_, rfl⟩
            have HLL : Hid (L.length = ll) := hll
            rw [hll] at hwr bh t24 t25 t26 hl23 hq hfew y0 HOW HNB
            clear hll
            have ne1 := World.new_ne wr _ bh
            have qb := World.block_lt_of_cell? _ _ bh
            have wsz : wr.heap.size = wr.drew.heap.size := rfl
            clear wsz
            go_wp2_with fail
            refine wp_region_noPanic ?_
            refine wp_region_X (S := fun w'' => w''.cell? ⟨w3.heap.size, 0, none⟩ = some (.slice ha2 ll hc2)) 15 (by kernel_rfl) (by (try dsimp only); go_keep) (fun hHeld => ?_)
            refine wpAnyX_take (i := 0) (v := ?_) rfl (by kernel_rfl) (by kernel_rfl) (by kernel_rfl) (by kernel_rfl) (fun _ _ _ h => h) (Or.inl ⟨by rfl, ?_⟩) (by assumption) ?_
            rotate_left
            · intro w hSw; (try dsimp only at hSw); first | (go_simp; done) | (go_simp; with_reducible rfl)
            simp [Act.put]
            refine wpAnyX_take (i := 1) (v := ?_) rfl (by kernel_rfl) (by kernel_rfl) (by kernel_rfl) (by kernel_rfl) (fun _ _ _ h => h) (Or.inl ⟨by rfl, ?_⟩) (by assumption) ?_
            rotate_left
            · intro w hSw; (try dsimp only at hSw); first | (go_simp; done) | (go_simp; with_reducible rfl)
            simp [Act.put]
            refine wpAnyX_take (i := 2) (v := ?_) rfl (by kernel_rfl) (by kernel_rfl) (by kernel_rfl) (by kernel_rfl) (fun _ _ _ h => h) (Or.inl ⟨by rfl, ?_⟩) (by assumption) ?_
            rotate_left
            · intro w hSw; (try dsimp only at hSw); first | (go_simp; done) | (go_simp; with_reducible rfl)
            simp [Act.put]
            refine wpAnyX_take (i := 4) (v := ?_) rfl (by kernel_rfl) (by kernel_rfl) (by kernel_rfl) (by kernel_rfl) (fun _ _ _ h => h) (Or.inl ⟨by rfl, ?_⟩) (by assumption) ?_
            rotate_left
            · intro w hSw; (try dsimp only at hSw); first | (go_simp; done) | (go_simp; with_reducible rfl)
            simp [Act.put]
            refine wpAnyX_take (i := 5) (v := ?_) rfl (by kernel_rfl) (by kernel_rfl) (by kernel_rfl) (by kernel_rfl) (fun _ _ _ h => h) (Or.inl ⟨by rfl, ?_⟩) (by assumption) ?_
            rotate_left
            · intro w hSw; (try dsimp only at hSw); first | (go_simp; done) | (go_simp; with_reducible rfl)
            simp [Act.put]
            refine wpAnyX_take (i := 6) (v := ?_) rfl (by kernel_rfl) (by kernel_rfl) (by kernel_rfl) (by kernel_rfl) (fun _ _ _ h => h) (Or.inl ⟨by rfl, ?_⟩) (by assumption) ?_
            rotate_left
            · intro w hSw; (try dsimp only at hSw); first | (go_simp; done) | (go_simp; with_reducible rfl)
            simp [Act.put]
            refine wpAnyX_take (i := 7) (v := ?_) rfl (by kernel_rfl) (by kernel_rfl) (by kernel_rfl) (by kernel_rfl) (fun _ _ _ h => h) (Or.inl ⟨by rfl, ?_⟩) (by assumption) ?_
            rotate_left
            · intro w hSw; (try dsimp only at hSw); first | (go_simp; done) | (go_simp; with_reducible rfl)
            simp [Act.put]
            refine wpAnyX_take (i := 8) (v := ?_) rfl (by kernel_rfl) (by kernel_rfl) (by kernel_rfl) (by kernel_rfl) (fun _ _ _ h => h) (Or.inl ⟨by rfl, ?_⟩) (by assumption) ?_
            rotate_left
            · intro w hSw; (try dsimp only at hSw); first | (go_simp; done) | (go_simp; with_reducible rfl)
            simp [Act.put]
            refine wpAnyX_one (i := 3) (by kernel_rfl) rfl (fun K hK => ?_)
            go_simp
            refine Calls.mono (AT1.out _) ?_
            rintro e w' ⟨rfl, hw'⟩
            subst hw'
            go_wp2_with fail
            refine hK.out _ _ ?_ (fun hHeld => ?_)
            · (try dsimp only)
              first | go_keep | assumption
            clear hK K
            try simp [Act.put]
            refine wpAnyX_one (i := 9) (by kernel_rfl) rfl (fun K hK => ?_)
            go_simp
            refine Calls.mono (AT2.out _) ?_
            rintro e w' ⟨rfl, hw'⟩
            subst hw'
            go_wp2_with fail
            refine hK.out _ _ ?_ (fun hHeld => ?_)
            · (try dsimp only)
              first | go_keep | assumption
            clear hK K
            try simp [Act.put]
            refine wpAnyX_one (i := 10) (by kernel_rfl) rfl (fun K hK => ?_)
            go_simp
            refine hK.out _ _ ?_ (fun hHeld => ?_)
            · (try dsimp only)
              first | exact keepC bh (one_belowS wr.drew _) | go_keep | assumption
            clear hK K
            try simp [Act.put]
            refine wpAnyX_take (i := 11) (v := ?_) rfl (by kernel_rfl) (by kernel_rfl) (by kernel_rfl) (by kernel_rfl) (fun _ _ _ h => h) (Or.inl ⟨by rfl, ?_⟩) (by assumption) ?_
            rotate_left
            · intro w hSw; (try dsimp only at hSw); first | (go_simp; done) | (go_simp; with_reducible rfl)
            simp [Act.put]
            refine wpAnyX_one (i := 12) (by kernel_rfl) rfl (fun K hK => ?_)
            go_simp
            refine hK.out _ _ ?_ (fun hHeld => ?_)
            · (try dsimp only)
              first | exact keepC (keepC bh (one_belowS wr.drew _)) (one_belowS _ _) | go_keep | assumption
            clear hK K
            try simp [Act.put]
            refine wpAnyX_one (i := 13) (by kernel_rfl) rfl (fun K hK => ?_)
            refine step_append_ownC rfl (.tmp 50) (.tmp 61) 45 rfl w2.heap.size 56 i0 (.agg #[.int .i64 0, .slice none 0 0]) 2 32 Try.underlying45 hi0 hz0 hz1 hz2 rfl (by decide) (.slice ha2 ll hc2) ll (ccells L K2) rfl ?own ⟨wr.heap.size + 1, 0, none⟩ 1 1 (ccell ⟨(p : Int), [(q : Int)]⟩ (.slice (some ⟨wr.heap.size, 0, none⟩) 1 1)) rfl rfl (news2 (by go_simp) (by go_simp)) one2 (by unfold maxLen; omega) (by omega) (by have := HBr.out.size; simp; omega) ?_
            case own => exact (by have h := HOW.out.1; rw [HLL.out] at h; exact (h.alloc _).alloc _)
            intro v5 w5 own5 grow5'
            have grow5 : ((wr.alloc (.cells #[.int .i64 (q : Int)] 3)).alloc (.cells #[.int .i64 (p : Int), .slice (some ⟨wr.heap.size, 0, none⟩) 1 1] 56)).grownBy w5 (Value.slice ha2 ll hc2).ownBlock := ⟨grow5'.os, grow5'.tape, grow5'.output, grow5'.size, grow5'.block⟩
            clear grow5'
            have hs5 := grow5.size
            simp only [World.size_alloc] at hs5
            have far5 : ∀ i, i < wr.heap.size → (Value.slice ha2 ll hc2).ownBlock ≠ some i → w5.heap[i]? = wr.heap[i]? := fun i h1 h2 => (grow5.block i (by simp only [World.size_alloc]; omega) (fun e => h2 e.symm)).trans ((Below.heap_alloc _ _ _ (by simp only [World.size_alloc]; omega)).trans (Below.heap_alloc _ _ _ h1))
            have Y5 := (far5 _ qb HNB.out).trans y0
            have t0 := box_cell Y5
            have f0 := box_frozen (o := 0) Y5
            have OW5 : Hid (OwnC2 w2.heap.size (w.heap.size + 1) (L ++ [⟨(p : Int), [(q : Int)]⟩]) (fun i => if i = L.length then .slice (some ⟨wr.heap.size, 0, none⟩) 1 1 else K2 i) v5 w5) := OwnC2.step (s := ⟨(p : Int), [(q : Int)]⟩) (HOW.out.below (one_belowS wr (.cells #[.int .i64 (q : Int)] 3))) (own_oneC wr _ _ (by have := HBr.out.size; omega)) grow5 (by rw [HLL.out]; exact own5)
            have HB5 : Hid (Below w2.heap.size w2 w5) := ((HBr.out.alloc HBr.out.size _).alloc (by have := HBr.out.size; simp only [World.size_alloc]; omega) _).grown grow5 (by have := HBr.out.size; simp only [World.size_alloc]; omega) (fun k hk => (HOW.out.1.lt k hk).1)
            have RF := row_form own5
            have NB5 := box_row Y5 own5 (by decide)
            clear own5 grow5 far5
            obtain ⟨g5, c5, hv5⟩ : ∃ g5 c5, v5 = .slice (some ⟨g5, 0, none⟩) (ll + 1) c5 := RF.resolve_left (fun h => by omega)
            subst hv5
            have hll5 : (L ++ [(⟨(p : Int), [(q : Int)]⟩ : Cl)]).length = ll + 1 := by rw [List.length_append, List.length_singleton, HLL.out]
            have YF : Hid ((w5.setCell ⟨w3.heap.size, 0, none⟩ (.slice (some ⟨g5, 0, none⟩) (ll + 1) c5)).heap[w3.heap.size]? = some (.cells #[.slice (some ⟨g5, 0, none⟩) (L ++ [(⟨(p : Int), [(q : Int)]⟩ : Cl)]).length c5] 47 (0, 0))) := by rw [hll5]; exact box_set Y5
            have OWF : Hid (OwnC2 w2.heap.size (w.heap.size + 1) (L ++ [⟨(p : Int), [(q : Int)]⟩]) (fun i => if i = L.length then .slice (some ⟨wr.heap.size, 0, none⟩) 1 1 else K2 i) (.slice (some ⟨g5, 0, none⟩) (L ++ [(⟨(p : Int), [(q : Int)]⟩ : Cl)]).length c5) (w5.setCell ⟨w3.heap.size, 0, none⟩ (.slice (some ⟨g5, 0, none⟩) (ll + 1) c5))) := by
              rw [hll5]
              refine OW5.out.kept (fun i _ hx => Below.heap_setCell _ _ _ _ ?_)
              intro e
              have e : i = w3.heap.size := e
              subst e
              rcases hx with h1 | ⟨i2, hi2, h1⟩
              · exact NB5 h1
              · exact box_row Y5 (OW5.out.2 i2 hi2) (by decide) h1
            have HBF : Hid (Below w2.heap.size w2 (w5.setCell ⟨w3.heap.size, 0, none⟩ (.slice (some ⟨g5, 0, none⟩) (ll + 1) c5))) := HB5.out.setCell (by show w2.heap.size ≤ w3.heap.size; exact hs3) _
            have HLMF : Hid (L ++ [(⟨(p : Int), [(q : Int)]⟩ : Cl)] = C ++ (Mo ++ [(⟨(p : Int), [(q : Int)]⟩ : Cl)])) := by show _ = _; rw [HLM.out, List.append_assoc]
            have HC0F : Hid (m = 0 → Mo ++ [(⟨(p : Int), [(q : Int)]⟩ : Cl)] = []) := fun h => by omega
            have q5 : w3.heap.size < w5.heap.size := by omega
            clear RF Y5 NB5 hll5
            refine hK.out _ _ ?_ (fun hHeld => ?_)
            · (try dsimp only)
              first | exact t0 | go_keep
            clear hK K
            try simp [Act.put]
            refine wpAnyX_take (i := 14) (v := ?_) rfl (by kernel_rfl) (by kernel_rfl) (by kernel_rfl) (by kernel_rfl) (fun _ _ _ h => h) (Or.inl ⟨by rfl, ?_⟩) (by assumption) ?_
            rotate_left
            · intro w hSw; (try dsimp only at hSw); first | (go_simp; done) | (go_simp; with_reducible rfl)
            simp [Act.put]
            refine wpAnyX_last (by kernel_rfl) rfl (fun K hK => ?_)
            go_simp
            refine hK.out _ _ ?_
            clear hK K
            try simp [Act.put]
            refine wpAnyX_done (by kernel_rfl) ?_ _
            refine NoPanic.normal ?_
            go_wp2_with fail
            go_roundg (10 - (j + 1))
            case measure => omega
            case rel => exact ⟨j + 1, _, _, _, _, _, by omega, by omega, by go_num, YF.out, OWF, RG, HLMF, HC0F, HBF⟩
      · have hje : j = 10 := by omega
        subst hje
        have LFL : Hid (copyF L = C) := LF.out L Mo HRL.out HLM.out HC0.out
        have HCL : Hid (ClsAt wr ha2 L) := by
          obtain ⟨qa, qc, e, h⟩ := (HOW.out.one (by have := HB2.out.size; omega)).cls
          cases e
          exact h
        have HCC : Hid (ClsAt wr va C) := HC2.out.below HBr.out
        have bh := box_cell y0
        have q7 := World.block_lt_of_cell? _ _ bh
        have DDL : Hid _ := DD.out L ha2 hc2 wr HRL.out LFL.out HCL.out
        have DLL : Hid (∀ W, ClsAt W a G → ClsAt W ha2 L → Calls _ _ _ _ _) := fun W => DL.out L ha2 hc2 W HRL.out LFL.out
        obtain ⟨ll, hll⟩ : ∃ q, L.length = q := ⟨_, rfl⟩
        rw [hll] at DDL DLL bh
        clear hll y0
        go_wp2_with fail
        refine Calls.mono DDL.out ?_
        rintro e w6 ⟨va6, vc6, rfl, hb, hcl6⟩
        have HB6 : Hid (Below w.heap.size w w6) := HBW.out.trans (hb.mono HBW.out.size)
        have HC6 : Hid (ClsAt w6 va C) := HCC.out.below hb
        have HL6 : Hid (ClsAt w6 ha2 L) := HCL.out.below hb
        have HD6 : Hid (ClsAt w6 va6 C) := hcl6
        have p0 := keepC n0 hb
        have p1 := keepC n1 hb
        have p7 := keepC bh hb
        have p0' := keepC p0 (one_belowS w6 (.cells #[.slice va6 m vc6] 47))
        have p1' := keepC p1 (one_belowS w6 (.cells #[.slice va6 m vc6] 47))
        have p7' := keepC p7 (one_belowS w6 (.cells #[.slice va6 m vc6] 47))
        have p6' := alloc_cell w6 #[.slice va6 m vc6] 47 0 (v := .slice va6 m vc6) rfl
        have x0 := World.block_lt_of_cell? _ _ p0
        have x1 := World.block_lt_of_cell? _ _ p1
        have x7 := World.block_lt_of_cell? _ _ p7
        clear hb hcl6 n0 n1 bh
        go_wp2_with fail
        refine Calls.mono (DLL.out _ (HS.out.below (HB6.out.trans ((one_belowS _ _).mono HB6.out.size))) (HL6.out.below (one_belowS _ _))) ?_
        rintro e w7 ⟨rfl, hb⟩
        have HB7 : Hid (Below w.heap.size w w7) := (HB6.out.trans ((one_belowS _ _).mono HB6.out.size)).trans (hb.mono (by have := HB6.out.size; simp; omega))
        have HC7 : Hid (ClsAt w7 va C) := (HC6.out.below (one_belowS _ _)).below hb
        have HD7 : Hid (ClsAt w7 va6 C) := (HD6.out.below (one_belowS _ _)).below hb
        have r1 := keepC p1' hb
        have r6 := keepC p6' hb
        clear hb p0 p1 p7 p0' p1' p7' p6' x0 x1 x7
        go_wp2_with fail
        refine Calls.mono (DS.out va vc va6 vc6 _ HC7.out HD7.out) ?_
        rintro e w8 ⟨rfl, hb⟩
        have HB8 : Hid (Below w.heap.size w w8) := HB7.out.trans (hb.mono HB7.out.size)
        clear hb
        go_wp2_with fail
        go_ret
        exact ⟨rfl, HB8.out⟩

end Go.Proofs.Ythlpkdmmkfhlead
