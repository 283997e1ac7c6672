/-
  The reference's CheckPorts.
-/
import Derived.Test.YtgjfmepbphfjoaaUPb
import Derived.Test.YtgjfmepbphfjoaaUCm
namespace Go.Proofs.Ytgjfmepbphfjoaa
open Go.RowKit
set_option linter.unusedVariables false

set_option maxHeartbeats 400000 in
theorem rbelowP_any (x m : Int) (w : World) :
    Calls Try.prog 28 #[.int .i64 x, .int .i64 m] w fun e w' => e = .returned (.bool (decide (0 ≤ x ∧ x < m))) ∧ w' = w := by
  by_cases h1 : 0 ≤ x
  · have d1 : decide (0 ≤ x) = true := decide_eq_true h1
    by_cases h2 : x < m
    · have d2 : decide (x < m) = true := decide_eq_true h2
      rw [decide_eq_true (⟨h1, h2⟩ : 0 ≤ x ∧ x < m)]
      go_enter Try.func28, Try.ntmps28
      go_wp2
      go_ret
      exact ⟨rfl, rfl⟩
    · have d2 : decide (x < m) = false := decide_eq_false h2
      rw [decide_eq_false (fun h => h2 h.2 : ¬ (0 ≤ x ∧ x < m))]
      go_enter Try.func28, Try.ntmps28
      go_wp2
      go_ret
      exact ⟨rfl, rfl⟩
  · have d1 : decide (0 ≤ x) = false := decide_eq_false h1
    rw [decide_eq_false (fun h => h1 h.1 : ¬ (0 ≤ x ∧ x < m))]
    go_enter Try.func28, Try.ntmps28
    go_wp2
    go_ret
    exact ⟨rfl, rfl⟩

theorem graphs_step {C : List (List Cl)} {j : Nat} (h : j < C.length) : graphsE (C.drop j) = if gcheckE (gr C j) = 0 then graphsE (C.drop (j + 1)) else gcheckE (gr C j) := by
  rw [List.drop_eq_getElem_cons h, graphsE, gr_elem h]
theorem graphs_end (C : List (List Cl)) : graphsE (C.drop C.length) = 0 := by
  rw [List.drop_length]
  rfl
theorem port_big {L : List Pt} {i : Nat} (hB : BigP L) (h : i < L.length) : (pt L i).cm.length ≤ 9223372036854775807 ∧ BigG (pt L i).cm := hB i h

set_option maxRecDepth 100000 in
set_option maxHeartbeats 4000000 in
theorem rpcheck_any (a : Option Addr) (c : Nat) (L : List Pt) (Fr : Int) (w : World) (hN : L.length ≤ 9223372036854775807) (hB : BigP L) (hL : PtsAt w a L) :
    Calls Try.prog 17 #[.slice a L.length c, .int .i64 Fr] w fun e w' => e = .returned (.int .i64 (pcheckE L Fr)) ∧ Below w.heap.size w w' := by
  by_cases hm : 12 < L.length
  · have e : pcheckE L Fr = 1 := by unfold pcheckE; rw [if_pos hm]
    rw [e]
    have hm2 : decide ((12 : Int) < (L.length : Int)) = true := decide_eq_true (by omega)
    clear hL e hB
    generalize L.length = n at *
    go_enter Try.func17, Try.ntmps17
    go_wp2_with fail
    go_ret
    exact ⟨rfl, Below.refl _ _⟩
  · have e : pcheckE L Fr = pErr L Fr 0 := by unfold pcheckE; rw [if_neg hm]
    rw [e]
    have HL : Hid (PtsAt w a L) := hL
    have BP : Hid (BigP L) := hB
    have hm2 : decide ((12 : Int) < (L.length : Int)) = false := decide_eq_false (by omega)
    have ST : Hid (∀ i, i < L.length → pErr L Fr i = if portE L Fr i = 0 then pErr L Fr (i + 1) else portE L Fr i) := fun i hi => pErr_step hi
    have EN : Hid (pErr L Fr L.length = 0) := pErr_end (Nat.le_refl _)
    clear hL e hB
    obtain ⟨E, hE⟩ : ∃ E, pErr L Fr 0 = E := ⟨_, rfl⟩
    have HE : Hid (pErr L Fr 0 = E) := hE
    rw [hE]
    clear hE
    obtain ⟨n, hn⟩ : ∃ n, L.length = n := ⟨_, rfl⟩
    have HN : Hid (L.length = n) := hn
    rw [hn] at hN hm hm2 ST EN ⊢
    clear hn
    go_enter Try.func17, Try.ntmps17
    go_wp2_with fail
    go_loopg [15] n (fun g s15 wr => ∃ i : Nat, i ≤ n ∧ n - i ≤ g ∧ s15 = .int .i64 i ∧ Hid (Below w.heap.size w wr) ∧ Hid (pErr L Fr i = E))
    case atStart => exact ⟨0, by omega, by omega, rfl, Below.refl _ _, HE⟩
    case round =>
      obtain ⟨i, hi, hg, rfl, HBr, HEi⟩ := hrel
      clear HE
      by_cases hlt : i < n
      · have hlt2 : (i : Int) < (n : Int) := by omega
        have hiL : i < L.length := by rw [HN.out]; exact hlt
        obtain ⟨b, o, ea, c0, c1, c2, ca, cc, c3, ⟨_, hk⟩, c4⟩ := (HL.out.below HBr.out) i hiL
        subst ea
        have hbb := World.block_lt_of_cell? _ _ c0
        have sti := (ST.out i hlt).symm.trans HEi.out
        have HBA : Hid (∀ o1 : Obj, Below w.heap.size w (wr.alloc o1)) := fun o1 => HBr.out.trans ((one_belowS wr o1).mono HBr.out.size)
        have HK : Hid (GrsAt wr ca (pt L i).cm) := hk
        obtain ⟨bg1, bg2⟩ := BP.out i hiL
        have BG : Hid (BigG (pt L i).cm) := bg2
        have DB : Hid (∀ W, _) := fun W => rbelowP_any (pt L i).o Fr W
        obtain ⟨Q, hQ⟩ : ∃ Q : Int, (n : Int) - 1 = Q := ⟨_, rfl⟩
        have hwr : IntKind.i64.wrap ((n : Int) - 1) = Q := by rw [IntKind.wrap_i64, ← hQ]; omega
        have HQ : Hid ((n : Int) - 1 = Q) := hQ
        have DI : Hid (∀ W, _) := fun W => rin_anyC (pt L i).m 0 Q W
        have DT : Hid (∀ W, _) := fun W => rin_anyC (pt L i).t 0 1000 W
        clear hk bg2 hQ HEi
        by_cases hB0 : 0 ≤ (pt L i).o ∧ (pt L i).o < Fr
        · rw [decide_eq_true hB0] at DB
          by_cases hI0 : 0 ≤ (pt L i).m ∧ (pt L i).m ≤ Q
          · rw [decide_eq_true hI0] at DI
            obtain ⟨q, hq⟩ := Int.eq_ofNat_of_zero_le hI0.1
            have hqn : q < n := by have := HQ.out; omega
            have hqn2 : (q : Int) < (n : Int) := by omega
            obtain ⟨b', o', ea', _, _, d2, _⟩ := (HL.out.below HBr.out) q (by rw [HN.out]; exact hqn)
            cases ea'
            have PE : Hid (portE L Fr i = if (q : Int) = i ∨ (pt L q).m ≠ i then 3 else if ¬ (0 ≤ (pt L i).t ∧ (pt L i).t ≤ 1000) then 2 else if 16 < (pt L i).cm.length ∨ (0 < (pt L i).cm.length ∧ (pt L i).s = true) then 1 else graphsE (pt L i).cm) := by
              show portE L Fr i = _
              unfold portE
              rw [if_neg (fun h => by rcases h with h | h; exact absurd hB0 h; exact absurd (show 0 ≤ (pt L i).m ∧ (pt L i).m ≤ (L.length : Int) - 1 by rw [HN.out, HQ.out]; exact hI0) h), hq, Int.toNat_natCast]
            rw [hq] at c2 DI
            clear hI0 hB0 hq
            generalize (pt L q).m = ym at *
            by_cases e1 : q = i
            · have PE1 : Hid (portE L Fr i = 3) := by show portE L Fr i = _; rw [PE.out, if_pos (Or.inl (by omega))]
              rw [PE1.out, if_neg (by decide)] at sti
              have HEE : Hid (3 = E) := sti
              clear sti PE1 ST
              clear PE
              have e1b : i = q := e1.symm
              clear e1
              subst e1b
              clear HK BG
              generalize (pt L i).o = xo at *
              generalize (pt L i).t = xt at *
              generalize (pt L i).cm.length = cl at *
              generalize (pt L i).s = xs at *
              go_wp2_with fail
              refine Calls.mono (DB.out _) ?_
              rintro e w2 ⟨rfl, hw2⟩
              have hw3 := hw2.symm
              clear hw2
              subst hw3
              go_wp2_with fail
              refine Calls.mono (DI.out _) ?_
              rintro e w2 ⟨rfl, hw2⟩
              have hw3 := hw2.symm
              clear hw2
              subst hw3
              go_wp2_with fail
              go_ret
              exact ⟨by rw [HEE.out]; rfl, HBA.out _⟩
            · by_cases e2 : ym = (i : Int)
              · by_cases hT : 0 ≤ (pt L i).t ∧ (pt L i).t ≤ 1000
                · rw [decide_eq_true hT] at DT
                  have PE2 : Hid (portE L Fr i = if 16 < (pt L i).cm.length ∨ (0 < (pt L i).cm.length ∧ (pt L i).s = true) then 1 else graphsE (pt L i).cm) := by
                    show portE L Fr i = _
                    rw [PE.out, if_neg (fun h => by rcases h with h | h; omega; exact absurd e2 h), if_neg (not_not_intro hT)]
                  clear PE hT
                  by_cases h16 : 16 < (pt L i).cm.length
                  · have PE1 : Hid (portE L Fr i = 1) := by show portE L Fr i = _; rw [PE2.out, if_pos (Or.inl h16)]
                    rw [PE1.out, if_neg (by decide)] at sti
                    have HEE : Hid (1 = E) := sti
                    clear sti PE1 ST
                    have y1 : ((q : Int) == (i : Int)) = false := by simp; omega
                    have y2 : decide ((q : Int) = (i : Int)) = false := decide_eq_false (by omega)
                    have y3 : decide (q = i) = false := decide_eq_false e1
                    subst e2
                    have g1 : decide ((16 : Int) < ((pt L i).cm.length : Int)) = true := decide_eq_true (by omega)
                    clear PE2
                    clear HK BG
                    generalize (pt L i).o = xo at *
                    generalize (pt L i).t = xt at *
                    generalize (pt L i).cm.length = cl at *
                    generalize (pt L i).s = xs at *
                    go_wp2_with fail
                    refine Calls.mono (DB.out _) ?_
                    rintro e w2 ⟨rfl, hw2⟩
                    have hw3 := hw2.symm
                    clear hw2
                    subst hw3
                    go_wp2_with fail
                    refine Calls.mono (DI.out _) ?_
                    rintro e w2 ⟨rfl, hw2⟩
                    have hw3 := hw2.symm
                    clear hw2
                    subst hw3
                    go_wp2_with fail
                    refine Calls.mono (DT.out _) ?_
                    rintro e w2 ⟨rfl, hw2⟩
                    have hw3 := hw2.symm
                    clear hw2
                    subst hw3
                    go_wp2_with fail
                    go_ret
                    exact ⟨by rw [HEE.out]; rfl, HBA.out _⟩
                  · by_cases h0 : 0 < (pt L i).cm.length
                    · cases hs : (pt L i).s with
                      | true =>
                        have PE1 : Hid (portE L Fr i = 1) := by show portE L Fr i = _; rw [PE2.out, if_pos (Or.inr ⟨h0, hs⟩)]
                        rw [PE1.out, if_neg (by decide)] at sti
                        have HEE : Hid (1 = E) := sti
                        clear sti PE1 ST
                        have y1 : ((q : Int) == (i : Int)) = false := by simp; omega
                        have y2 : decide ((q : Int) = (i : Int)) = false := decide_eq_false (by omega)
                        have y3 : decide (q = i) = false := decide_eq_false e1
                        subst e2
                        have g1 : decide ((16 : Int) < ((pt L i).cm.length : Int)) = false := decide_eq_false (by omega)
                        have g2 : decide ((0 : Int) < ((pt L i).cm.length : Int)) = true := decide_eq_true (by omega)
                        rw [hs] at c4
                        clear PE2
                        clear HK BG
                        generalize (pt L i).o = xo at *
                        generalize (pt L i).t = xt at *
                        generalize (pt L i).cm.length = cl at *
                        go_wp2_with fail
                        refine Calls.mono (DB.out _) ?_
                        rintro e w2 ⟨rfl, hw2⟩
                        have hw3 := hw2.symm
                        clear hw2
                        subst hw3
                        go_wp2_with fail
                        refine Calls.mono (DI.out _) ?_
                        rintro e w2 ⟨rfl, hw2⟩
                        have hw3 := hw2.symm
                        clear hw2
                        subst hw3
                        go_wp2_with fail
                        refine Calls.mono (DT.out _) ?_
                        rintro e w2 ⟨rfl, hw2⟩
                        have hw3 := hw2.symm
                        clear hw2
                        subst hw3
                        go_wp2_with fail
                        go_ret
                        exact ⟨by rw [HEE.out]; rfl, HBA.out _⟩
                      | false =>
                        have PE1 : Hid (portE L Fr i = graphsE (pt L i).cm) := by show portE L Fr i = _; rw [PE2.out, if_neg (fun h => by rcases h with h | h; omega; exact absurd h.2 (by rw [hs]; decide))]
                        rw [PE1.out] at sti
                        have HGE : Hid ((if graphsE (pt L i).cm = 0 then pErr L Fr (i + 1) else graphsE (pt L i).cm) = E) := sti
                        have GS : Hid (∀ j, j < (pt L i).cm.length → graphsE ((pt L i).cm.drop j) = if gcheckE (gr (pt L i).cm j) = 0 then graphsE ((pt L i).cm.drop (j + 1)) else gcheckE (gr (pt L i).cm j)) := fun j hj => graphs_step hj
                        have GN : Hid (graphsE ((pt L i).cm.drop (pt L i).cm.length) = 0) := graphs_end _
                        have G0 : Hid (graphsE ((pt L i).cm.drop 0) = graphsE (pt L i).cm) := by show graphsE _ = _; rw [List.drop_zero]
                        have y1 : ((q : Int) == (i : Int)) = false := by simp; omega
                        have y2 : decide ((q : Int) = (i : Int)) = false := decide_eq_false (by omega)
                        have y3 : decide (q = i) = false := decide_eq_false e1
                        subst e2
                        have g1 : decide ((16 : Int) < ((pt L i).cm.length : Int)) = false := decide_eq_false (by omega)
                        have g2 : decide ((0 : Int) < ((pt L i).cm.length : Int)) = true := decide_eq_true (by omega)
                        rw [hs] at c4
                        clear PE2 PE1 sti ST EN
                        generalize (pt L i).o = xo at *
                        generalize (pt L i).t = xt at *
                        generalize (pt L i).cm = C at *
                        obtain ⟨cl, hcl⟩ : ∃ z, C.length = z := ⟨_, rfl⟩
                        have HC : Hid (C.length = cl) := hcl
                        rw [hcl] at c3 h16 h0 bg1 g1 g2 GS GN
                        clear hcl
                        obtain ⟨GE, hGE⟩ : ∃ z, graphsE C = z := ⟨_, rfl⟩
                        rw [hGE] at HGE G0
                        clear hGE
                        obtain ⟨V, hV⟩ : ∃ V, V = wr := ⟨_, rfl⟩
                        subst hV
                        go_wp2_with fail
                        refine Calls.mono (DB.out _) ?_
                        rintro e w2 ⟨rfl, hw2⟩
                        have hw3 := hw2.symm
                        clear hw2
                        subst hw3
                        go_wp2_with fail
                        refine Calls.mono (DI.out _) ?_
                        rintro e w2 ⟨rfl, hw2⟩
                        have hw3 := hw2.symm
                        clear hw2
                        subst hw3
                        go_wp2_with fail
                        refine Calls.mono (DT.out _) ?_
                        rintro e w2 ⟨rfl, hw2⟩
                        have hw3 := hw2.symm
                        clear hw2
                        subst hw3
                        go_wp2_with fail
                        go_loopg [73] cl (fun g s73 wr => ∃ j : Nat, j ≤ cl ∧ cl - j ≤ g ∧ s73 = .int .i64 j ∧ Hid (Below V.heap.size V wr) ∧ Hid (graphsE (C.drop j) = GE))
                        case atStart => exact ⟨0, by omega, by omega, rfl, one_belowS _ _, G0⟩
                        case round =>
                          obtain ⟨j, hj, hgj, rfl, HBj, HGj⟩ := hrel
                          have HBW : Hid (Below w.heap.size w wr) := HBr.out.trans (HBj.out.mono HBr.out.size)
                          clear G0
                          by_cases hltj : j < cl
                          · have hltj2 : (j : Int) < (cl : Int) := by omega
                            obtain ⟨gb, go, ga, gc, eg, k0, hcl⟩ := (HK.out.below HBj.out) j (by rw [HC.out]; exact hltj)
                            subst eg
                            have qg := World.block_lt_of_cell? _ _ k0
                            obtain ⟨b1, b2⟩ := BG.out j (by rw [HC.out]; exact hltj)
                            have DG : Hid (∀ o1 : Obj, _) := fun o1 => rgcheck_any ga gc (gr C j) (wr.alloc o1) b1 b2 (hcl.below (one_belowS _ _))
                            have HBO : Hid (∀ o1 : Obj, Below V.heap.size V (wr.alloc o1)) := fun o1 => HBj.out.trans ((one_belowS wr o1).mono HBj.out.size)
                            have gs := (GS.out j hltj).symm.trans HGj.out
                            clear hcl b2 HGj
                            generalize gcheckE (gr C j) = z at *
                            generalize (gr C j).length = zl at *
                            by_cases hz : z = 0
                            · rw [if_pos hz] at gs
                              have HG2 : Hid _ := gs
                              subst hz
                              clear gs
                              go_wp2_with fail
                              refine Calls.mono (DG.out _) ?_
                              rintro e w5 ⟨rfl, hb5⟩
                              have HB5 : Hid (Below V.heap.size V w5) := (HBO.out _).trans (hb5.mono (HBO.out _).size)
                              clear hb5
                              go_wp2_with fail
                              go_roundg (cl - (j + 1))
                              case measure => omega
                              case rel => exact ⟨j + 1, by omega, by omega, by go_num, HB5, HG2⟩
                            · rw [if_neg hz] at gs
                              have HZ : Hid (z = E) := by
                                have h := HGE.out
                                rw [← gs, if_neg hz] at h
                                exact h
                              have hz2 : decide (z = 0) = false := decide_eq_false hz
                              have hz3 : (z == 0) = false := by simp [hz]
                              clear gs HGE
                              go_wp2_with fail
                              refine Calls.mono (DG.out _) ?_
                              rintro e w5 ⟨rfl, hb5⟩
                              have HB5 : Hid (Below w.heap.size w w5) := HBr.out.trans (((HBO.out _).trans (hb5.mono (HBO.out _).size)).mono HBr.out.size)
                              clear hb5
                              go_wp2_with fail
                              go_ret
                              exact ⟨by rw [HZ.out]; rfl, HB5.out⟩
                          · have hje : cl = j := by omega
                            subst hje
                            have HEE : Hid (pErr L Fr (i + 1) = E) := by
                              have h := HGE.out
                              rw [← HGj.out.symm.trans GN.out |>.symm] at h
                              rw [if_pos rfl] at h
                              exact h
                            go_wp2_with fail
                            go_roundg (n - (i + 1))
                            case measure => omega
                            case rel => exact ⟨i + 1, by omega, by omega, by go_num, HBW, HEE⟩
                    · have hs' : ¬ (0 < (pt L i).cm.length ∧ (pt L i).s = true) := fun h => h0 h.1
                      have PE1 : Hid (portE L Fr i = graphsE (pt L i).cm) := by show portE L Fr i = _; rw [PE2.out, if_neg (fun h => by rcases h with h | h; omega; exact absurd h hs')]
                      rw [PE1.out] at sti
                      have HGE : Hid ((if graphsE (pt L i).cm = 0 then pErr L Fr (i + 1) else graphsE (pt L i).cm) = E) := sti
                      have GS : Hid (∀ j, j < (pt L i).cm.length → graphsE ((pt L i).cm.drop j) = if gcheckE (gr (pt L i).cm j) = 0 then graphsE ((pt L i).cm.drop (j + 1)) else gcheckE (gr (pt L i).cm j)) := fun j hj => graphs_step hj
                      have GN : Hid (graphsE ((pt L i).cm.drop (pt L i).cm.length) = 0) := graphs_end _
                      have G0 : Hid (graphsE ((pt L i).cm.drop 0) = graphsE (pt L i).cm) := by show graphsE _ = _; rw [List.drop_zero]
                      have y1 : ((q : Int) == (i : Int)) = false := by simp; omega
                      have y2 : decide ((q : Int) = (i : Int)) = false := decide_eq_false (by omega)
                      have y3 : decide (q = i) = false := decide_eq_false e1
                      subst e2
                      have g1 : decide ((16 : Int) < ((pt L i).cm.length : Int)) = false := decide_eq_false (by omega)
                      have g2 : decide ((0 : Int) < ((pt L i).cm.length : Int)) = false := decide_eq_false (by omega)
                      clear PE2 PE1 sti ST EN
                      generalize (pt L i).o = xo at *
                      generalize (pt L i).t = xt at *
                      generalize (pt L i).cm = C at *
                      generalize (pt L i).s = xs at *
                      obtain ⟨cl, hcl⟩ : ∃ z, C.length = z := ⟨_, rfl⟩
                      have HC : Hid (C.length = cl) := hcl
                      rw [hcl] at c3 h16 h0 bg1 g1 g2 GS GN
                      clear hcl
                      obtain ⟨GE, hGE⟩ : ∃ z, graphsE C = z := ⟨_, rfl⟩
                      rw [hGE] at HGE G0
                      clear hGE
                      obtain ⟨V, hV⟩ : ∃ V, V = wr := ⟨_, rfl⟩
                      subst hV
                      go_wp2_with fail
                      refine Calls.mono (DB.out _) ?_
                      rintro e w2 ⟨rfl, hw2⟩
                      have hw3 := hw2.symm
                      clear hw2
                      subst hw3
                      go_wp2_with fail
                      refine Calls.mono (DI.out _) ?_
                      rintro e w2 ⟨rfl, hw2⟩
                      have hw3 := hw2.symm
                      clear hw2
                      subst hw3
                      go_wp2_with fail
                      refine Calls.mono (DT.out _) ?_
                      rintro e w2 ⟨rfl, hw2⟩
                      have hw3 := hw2.symm
                      clear hw2
                      subst hw3
                      go_wp2_with fail
                      go_loopg [73] cl (fun g s73 wr => ∃ j : Nat, j ≤ cl ∧ cl - j ≤ g ∧ s73 = .int .i64 j ∧ Hid (Below V.heap.size V wr) ∧ Hid (graphsE (C.drop j) = GE))
                      case atStart => exact ⟨0, by omega, by omega, rfl, one_belowS _ _, G0⟩
                      case round =>
                        obtain ⟨j, hj, hgj, rfl, HBj, HGj⟩ := hrel
                        have HBW : Hid (Below w.heap.size w wr) := HBr.out.trans (HBj.out.mono HBr.out.size)
                        clear G0
                        by_cases hltj : j < cl
                        · exact absurd hltj (by omega)
                        · have hje : cl = j := by omega
                          subst hje
                          have HEE : Hid (pErr L Fr (i + 1) = E) := by
                            have h := HGE.out
                            rw [← HGj.out.symm.trans GN.out |>.symm] at h
                            rw [if_pos rfl] at h
                            exact h
                          go_wp2_with fail
                          go_roundg (n - (i + 1))
                          case measure => omega
                          case rel => exact ⟨i + 1, by omega, by omega, by go_num, HBW, HEE⟩
                · rw [decide_eq_false hT] at DT
                  have PE1 : Hid (portE L Fr i = 2) := by show portE L Fr i = _; rw [PE.out, if_neg (fun h => by rcases h with h | h; omega; exact absurd e2 h), if_pos hT]
                  rw [PE1.out, if_neg (by decide)] at sti
                  have HEE : Hid (2 = E) := sti
                  clear sti PE1 ST
                  clear PE
                  have y1 : ((q : Int) == (i : Int)) = false := by simp; omega
                  have y2 : decide ((q : Int) = (i : Int)) = false := decide_eq_false (by omega)
                  have y3 : decide (q = i) = false := decide_eq_false e1
                  subst e2
                  clear HK BG
                  generalize (pt L i).o = xo at *
                  generalize (pt L i).t = xt at *
                  generalize (pt L i).cm.length = cl at *
                  generalize (pt L i).s = xs at *
                  go_wp2_with fail
                  refine Calls.mono (DB.out _) ?_
                  rintro e w2 ⟨rfl, hw2⟩
                  have hw3 := hw2.symm
                  clear hw2
                  subst hw3
                  go_wp2_with fail
                  refine Calls.mono (DI.out _) ?_
                  rintro e w2 ⟨rfl, hw2⟩
                  have hw3 := hw2.symm
                  clear hw2
                  subst hw3
                  go_wp2_with fail
                  refine Calls.mono (DT.out _) ?_
                  rintro e w2 ⟨rfl, hw2⟩
                  have hw3 := hw2.symm
                  clear hw2
                  subst hw3
                  go_wp2_with fail
                  go_ret
                  exact ⟨by rw [HEE.out]; rfl, HBA.out _⟩
              · have PE1 : Hid (portE L Fr i = 3) := by show portE L Fr i = _; rw [PE.out, if_pos (Or.inr e2)]
                rw [PE1.out, if_neg (by decide)] at sti
                have HEE : Hid (3 = E) := sti
                clear sti PE1 ST
                have y1 : ((q : Int) == (i : Int)) = false := by simp; omega
                have y2 : decide ((q : Int) = (i : Int)) = false := decide_eq_false (by omega)
                have y3 : decide (q = i) = false := decide_eq_false e1
                have z1 : (ym == (i : Int)) = false := by simp [e2]
                have z2 : decide (ym = (i : Int)) = false := decide_eq_false e2
                clear PE
                clear HK BG
                generalize (pt L i).o = xo at *
                generalize (pt L i).t = xt at *
                generalize (pt L i).cm.length = cl at *
                generalize (pt L i).s = xs at *
                go_wp2_with fail
                refine Calls.mono (DB.out _) ?_
                rintro e w2 ⟨rfl, hw2⟩
                have hw3 := hw2.symm
                clear hw2
                subst hw3
                go_wp2_with fail
                refine Calls.mono (DI.out _) ?_
                rintro e w2 ⟨rfl, hw2⟩
                have hw3 := hw2.symm
                clear hw2
                subst hw3
                go_wp2_with fail
                go_ret
                exact ⟨by rw [HEE.out]; rfl, HBA.out _⟩
          · rw [decide_eq_false hI0] at DI
            have PE1 : Hid (portE L Fr i = 4) := by
              show portE L Fr i = _
              unfold portE
              rw [if_pos (Or.inr (by rw [HN.out, HQ.out]; exact hI0))]
            rw [PE1.out, if_neg (by decide)] at sti
            have HEE : Hid (4 = E) := sti
            clear sti PE1 ST
            clear HK BG
            generalize (pt L i).o = xo at *
            generalize (pt L i).t = xt at *
            generalize (pt L i).m = xm at *
            generalize (pt L i).cm.length = cl at *
            generalize (pt L i).s = xs at *
            go_wp2_with fail
            refine Calls.mono (DB.out _) ?_
            rintro e w2 ⟨rfl, hw2⟩
            have hw3 := hw2.symm
            clear hw2
            subst hw3
            go_wp2_with fail
            refine Calls.mono (DI.out _) ?_
            rintro e w2 ⟨rfl, hw2⟩
            have hw3 := hw2.symm
            clear hw2
            subst hw3
            go_wp2_with fail
            go_ret
            exact ⟨by rw [HEE.out]; rfl, HBA.out _⟩
        · rw [decide_eq_false hB0] at DB
          have PE1 : Hid (portE L Fr i = 4) := by
            show portE L Fr i = _
            unfold portE
            rw [if_pos (Or.inl hB0)]
          rw [PE1.out, if_neg (by decide)] at sti
          have HEE : Hid (4 = E) := sti
          clear sti PE1 ST
          clear HK BG
          generalize (pt L i).o = xo at *
          generalize (pt L i).t = xt at *
          generalize (pt L i).m = xm at *
          generalize (pt L i).cm.length = cl at *
          generalize (pt L i).s = xs at *
          go_wp2_with fail
          refine Calls.mono (DB.out _) ?_
          rintro e w2 ⟨rfl, hw2⟩
          have hw3 := hw2.symm
          clear hw2
          subst hw3
          go_wp2_with fail
          go_ret
          exact ⟨by rw [HEE.out]; rfl, HBA.out _⟩
      · have hie : n = i := by omega
        subst hie
        have HEE : Hid ((0 : Int) = E) := EN.out.symm.trans HEi.out
        clear HEi
        go_wp2_with fail
        go_ret
        exact ⟨by rw [HEE.out]; rfl, HBr.out⟩
end Go.Proofs.Ytgjfmepbphfjoaa
