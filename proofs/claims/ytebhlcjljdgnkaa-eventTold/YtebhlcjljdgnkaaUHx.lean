/-
  EventTold at whatever arguments.
-/
import Derived.Test.YtebhlcjljdgnkaaUHvHwHe
import Derived.Test.YtebhlcjljdgnkaaUHgHhHiTo
import Derived.Test.YtebhlcjljdgnkaaULoSe
import Derived.Test.YtebhlcjljdgnkaaURsRv
import Derived.BigQuiet
import Derived.Deep.RegionHeld3
namespace Go.Proofs.Ytebhlcjljdgnkaa
open Go.RowKit
set_option linter.unusedVariables false

theorem MarksAt.congrE {w : World} {b n : Nat} {f g : Int → Bool} (h : MarksAt w b n f) (e : ∀ k, f k = g k) : MarksAt w b n g := by
  have : f = g := funext e
  rw [← this]
  exact h
theorem take_not {l : List Int} (h : l.Nodup) {i : Nat} (hi : i < l.length) {x : Int} (hx : l.getD i 0 = x) : x ∉ l.take i := by
  rw [getD_elem l 0 hi] at hx
  intro hm
  have h1 := List.take_succ_eq_append_getElem hi
  have h2 : (l.take (i + 1)).Nodup := List.Sublist.nodup (List.take_sublist _ _) h
  rw [h1, List.nodup_append] at h2
  exact h2.2.2 x hm l[i] (by simp) hx.symm
theorem take_step {l : List Int} {i : Nat} (hi : i < l.length) {x : Int} (hx : l.getD i 0 = x) (j : Int) : (if j = x then true else decide (j ∈ l.take i)) = decide (j ∈ l.take (i + 1)) := by
  rw [getD_elem l 0 hi] at hx
  rw [List.take_succ_eq_append_getElem hi, hx]
  by_cases e : j = x
  · simp [e]
  · simp [e]

set_option maxRecDepth 100000 in
set_option maxHeartbeats 2000000 in
theorem told_bad (a : Option Addr) (c n : Nat) (S : List Nd) (la : Option Addr) (lc m : Nat) (L : List Hr) (p u E : Int) (w : World) (hS : NdsAt w a S) (hH : HrsAt w la L) (hE0 : E ≠ 0)
    (d : ∀ W, NdsAt W a S → HrsAt W la L → Calls Try.prog 5 #[.agg #[.slice a n c], .slice la m lc, .agg #[.int .i64 p, .int .i64 u]] W fun e w' => e = .returned (.tuple #[.slice none 0 0, .slice none 0 0, .int .i64 E]) ∧ Below W.heap.size W w') :
    Calls Try.prog 3 #[.agg #[.slice a n c], .slice la m lc, .agg #[.int .i64 p, .int .i64 u]] w fun e w' => e = .returned (.bool true) ∧ Below w.heap.size w w' := by
  have D : Hid (∀ W, NdsAt W a S → HrsAt W la L → Calls _ _ _ _ _) := d
  have DP : Hid HappenedOk := happened_ok
  have HS : Hid (NdsAt w a S) := hS
  have HL : Hid (HrsAt w la L) := hH
  have e1 : (E == 0) = false := beq_eq_false_iff_ne.2 hE0
  have e2 : decide (E = 0) = false := decide_eq_false hE0
  clear hS hH d
  go_enter Try.func3, Try.ntmps3
  go_wp2_with fail
  refine Calls.mono (D.out _ (HS.out.below (two_belowS _ _ _)) (HL.out.below (two_belowS _ _ _))) ?_
  rintro e w1 ⟨rfl, hb⟩
  have HB : Hid (Below w.heap.size w w1) := (two_belowS w _ _).trans (hb.mono (by simp; omega))
  clear hb
  go_wp2_with fail
  refine Calls.mono (DP.out _) ?_
  rintro e w3 ⟨rfl, hb⟩
  have HB3 : Hid (Below w.heap.size w w3) := HB.out.trans (hb.mono HB.out.size)
  clear hb
  go_wp2_with fail
  refine Calls.mono (DP.out _) ?_
  rintro e w4 ⟨rfl, hb⟩
  have HB4 : Hid (Below w.heap.size w w4) := HB3.out.trans (hb.mono HB3.out.size)
  clear hb
  go_wp2_with fail
  go_ret
  exact ⟨rfl, HB4.out⟩

set_option maxRecDepth 100000 in
set_option maxHeartbeats 8000000 in
theorem told_ok (a : Option Addr) (c : Nat) (S : List Nd) (la : Option Addr) (lc : Nat) (L : List Hr) (k : Nat) (u : Int) (w : World) (wf : WF S) (hS : NdsAt w a S) (hk : k < S.length) (hE : findE S k u = 0) (hBL : BigH L) (hH : HrsAt w la L) (hln : la = none → L.length = 0) (hE1 : hcheckE L S.length = 0) :
    Calls Try.prog 3 #[.agg #[.slice a S.length c], .slice la L.length lc, .agg #[.int .i64 (k : Int), .int .i64 u]] w fun e w' => e = .returned (.bool true) ∧ Below w.heap.size w w' := by
  have hN := wf.small
  obtain ⟨hL24, hnd, hPL⟩ := hcheck_ok hE1
  have hku : (nd S k).u = true := by
    obtain ⟨_, k', e, _, hu, _⟩ := find_used hE
    have : k = k' := by omega
    rw [this]
    exact hu
  have hPN := wf.path_nodup hk
  have D : Hid (∀ W, NdsAt W a S → HrsAt W la L → Calls _ _ _ _ _) := fun W hW hHW => disp_ok a c S la lc L k u W wf hW hk hE hBL hHW hln hE1
  have DP : Hid HappenedOk := happened_ok
  have DPA : Hid (∀ W, NdsAt W a S → Calls Try.prog 7 #[.agg #[.slice a S.length c], .agg #[.int .i64 (k : Int), .int .i64 u]] W fun e w' => ∃ ra rc, e = .returned (.tuple #[.slice ra (pathF S k).length rc, .int .i64 0]) ∧ Below W.heap.size W w' ∧ IntsAt w' ra (pathF S k)) := fun W hW => by
    refine Calls.mono (path_ok a c S k u W wf hW hk hE) ?_
    rintro e w' ⟨x, rfl, hb, hown⟩
    obtain ⟨ra, rc, hv, hi, _⟩ := own_slice hown
    exact ⟨ra, rc, by rw [hv], hb, hi⟩
  have DI : Hid (∀ (h : Hr) (b : Nat) (W : World), h ∈ L → W.cell? ⟨b, 0, none⟩ = some (.int .i64 h.id) → HrsAt W la L → Calls Try.prog 8 #[.slice la L.length lc, .func (.func 9) #[] #[.pointer (some ⟨b, 0, none⟩)]] W fun e w' => ∃ kk : Nat, e = .returned (.int .i64 (kk : Int)) ∧ kk < L.length ∧ hr L kk = h ∧ Below W.heap.size W w') := fun h b W hm hc hW => by
    refine Calls.mono (indexHr_any (fun _ => True) 9 #[.pointer (some ⟨b, 0, none⟩)] (fun x => decide (x.id = h.id)) la lc L W (by omega) hW (enters_of Try.func9 (by kernel_rfl) rfl) (fun _ _ => trivial) (told1_any b h.id W hc)) ?_
    rintro e w' ⟨r, rfl, hb, hr1⟩
    rcases hr1 with ⟨_, hno⟩ | ⟨kk, hkk, rfl, hp, _⟩
    · obtain ⟨i, hi, e⟩ := List.getElem_of_mem hm
      have := hno i hi
      rw [hr_elem hi, e] at this
      simp at this
    · exact ⟨kk, rfl, hkk, one_id hnd _ (by rw [hr_elem hkk]; exact List.getElem_mem hkk) h hm (by simpa using hp), hb⟩
  have DU : Hid (∀ (q : Nat), q < S.length → (nd S q).u = true → ∀ W, NdsAt W a S → Calls Try.prog 11 #[.agg #[.slice a S.length c], .int .i64 (q : Int)] W fun e w' => e = .returned (.bool true) ∧ Below W.heap.size W w') := fun q hq hu W hW => by
    have h := used_all a c S (q : Int) W hW
    have e : usedB S (q : Int) = true := by unfold usedB; rw [isPl_nat.2 hq, Int.toNat_natCast, hu]; rfl
    rw [e] at h
    exact h
  have PS : (pathF S k).length ≤ 25 := by have := path_len S k; omega
  have CT : Hid (∀ sa sc (x : Int) W, x ∈ pathF S k → IntsAt W sa (pathF S k) → Calls Try.prog 10 #[.slice sa (pathF S k).length sc, .int .i64 x] W fun e w' => e = .returned (.bool true) ∧ w' = W) := fun sa sc x W hx hI => by
    have h := contains_any sa sc (pathF S k) x W (by omega) hI
    rw [decide_eq_true hx] at h
    exact h
  have DS : Hid (∀ (q t : Nat), q < S.length → t < S.length → (nd S q).u = true → (nd S t).u = true → seenF S q t = true → ∀ W, NdsAt W a S → Calls Try.prog 12 #[.agg #[.slice a S.length c], .agg #[.int .i64 (q : Int), .int .i64 (nd S q).n], .agg #[.int .i64 (t : Int), .int .i64 (nd S t).n]] W fun e w' => e = .returned (.tuple #[.bool true, .int .i64 0]) ∧ Below W.heap.size W w') := fun q t hq ht hqu htu hs W hW => by
    have h := seen_ok a c S q t (nd S q).n (nd S t).n W wf hW hq ht (find_here wf hq hqu) (find_here wf ht htu)
    rw [hs] at h
    exact h
  have CF : Hid (∀ i, i < (toldF L (spotsF (pathF S k))).length → ∃ h q t, CallOk S L k (toldF L (spotsF (pathF S k))) i h q t) := fun i hi => call_facts wf hk hku hi
  have IDN : Hid ((toldF L (spotsF (pathF S k))).map Hr.id).Nodup := told_nodup hnd hPN
  have WFI : Hid (∀ x ∈ L, (Lit.int .i64 x.id).wf = true) := fun x hx => by
    obtain ⟨i, hi, e⟩ := List.getElem_of_mem hx
    have := hBL i hi
    rw [hr_elem hi, e] at this
    exact this
  have LL : Hid ((leftF L ((toldF L (spotsF (pathF S k))).map Hr.id)).length ≤ L.length) := List.length_filter_le _ _
  have LH' : Hid (∀ x ∈ L, decide (x ∈ leftF L ((toldF L (spotsF (pathF S k))).map Hr.id)) = !(x.on && decide (x.id ∈ (toldF L (spotsF (pathF S k))).map Hr.id))) := fun x hx => left_has hx
  have TL : (toldF L (spotsF (pathF S k))).length ≤ 1200 := by
    rw [told_vis]
    have h1 := flat_short L (visF (stopS L) (spotsF (pathF S k)))
    have h2 := vis_short (stopS L) (spotsF (pathF S k))
    have h3 : (spotsF (pathF S k)).length ≤ 50 := by unfold spotsF; simp; omega
    have h4 := Nat.mul_le_mul (Nat.le_trans h2 h3) hL24
    omega
  have HS : Hid (NdsAt w a S) := hS
  have HL : Hid (HrsAt w la L) := hH
  clear hS hE wf hku hnd hPL hPN hE1 hH hln hBL
  generalize toldF L (spotsF (pathF S k)) = T at *
  obtain ⟨ID, hID⟩ : ∃ ID, T.map Hr.id = ID := ⟨_, rfl⟩
  have HID : Hid (T.map Hr.id = ID) := hID
  rw [hID] at D IDN LL LH'
  obtain ⟨C, hC⟩ : ∃ C, T.map (callH S k) = C := ⟨_, rfl⟩
  have HC : Hid (T.map (callH S k) = C) := hC
  rw [hC] at D
  generalize leftF L ID = F at *
  obtain ⟨P, hP⟩ : ∃ P, pathF S k = P := ⟨_, rfl⟩
  have HP : Hid (pathF S k = P) := hP
  rw [hP] at DPA CT PS
  obtain ⟨n, hn⟩ : ∃ n, S.length = n := ⟨_, rfl⟩
  have HN : Hid (S.length = n) := hn
  rw [hn] at hN hk D DPA DU DS ⊢
  obtain ⟨m, hm⟩ : ∃ z, L.length = z := ⟨_, rfl⟩
  have HM : Hid (L.length = m) := hm
  rw [hm] at hL24 D DI LL ⊢
  obtain ⟨fl, hfl⟩ : ∃ z, F.length = z := ⟨_, rfl⟩
  have HFL : Hid (F.length = fl) := hfl
  rw [hfl] at D LL
  obtain ⟨pl, hpl⟩ : ∃ z, P.length = z := ⟨_, rfl⟩
  rw [hpl] at DPA CT PS
  have hct : C.length = T.length := by rw [← hC]; simp
  have hit : ID.length = T.length := by rw [← hID]; simp
  obtain ⟨cl, hcl⟩ : ∃ z, T.length = z := ⟨_, rfl⟩
  rw [hct, hcl] at D
  rw [hcl] at hct hit TL CF
  have HCT : Hid (C.length = cl) := hct
  have HIT : Hid (ID.length = cl) := hit
  have hfm : fl ≤ m := LL.out
  clear hID hC hP hn hm hfl hpl hcl hct hit LL
  go_enter Try.func3, Try.ntmps3
  go_wp2_with fail
  refine Calls.mono (D.out _ (HS.out.below (two_belowS _ _ _)) (HL.out.below (two_belowS _ _ _))) ?_
  rintro e w1 ⟨ca, cc, va, vc, rfl, hb, hCA, hVA, _⟩
  have l0 := keepC (alloc_cell1 w #[.slice a n c] 24 0 (.cells #[.int .i64 (k : Int), .int .i64 u] 27) rfl) hb
  have l1 := keepC (alloc_cell2 w #[.int .i64 (k : Int), .int .i64 u] 27 0 (.cells #[.slice a n c] 24) rfl) hb
  have l2 := keepC (alloc_cell2 w #[.int .i64 (k : Int), .int .i64 u] 27 1 (.cells #[.slice a n c] 24) rfl) hb
  have HB : Hid (Below w.heap.size w w1) := (two_belowS w _ _).trans (hb.mono (by simp; omega))
  have HC1 : Hid (CalsAt w1 ca C) := hCA
  have HV1 : Hid (HrsAt w1 va F) := hVA
  clear hb hCA hVA D
  go_wp2_with fail
  refine Calls.mono (DP.out _) ?_
  rintro e w2 ⟨rfl, hb⟩
  have HB2 : Hid (Below w.heap.size w w2) := HB.out.trans (hb.mono HB.out.size)
  have HC2 : Hid (CalsAt w2 ca C) := HC1.out.below hb
  have HV2 : Hid (HrsAt w2 va F) := HV1.out.below hb
  have m0 := keepC l0 hb
  have m1 := keepC l1 hb
  have m2 := keepC l2 hb
  clear hb l0 l1 l2 DP HC1 HV1 HB
  go_wp2_with fail
  refine Calls.mono (DPA.out _ (HS.out.below HB2.out)) ?_
  rintro e w3 ⟨pa, pc, rfl, hb, hI⟩
  have HB3 : Hid (Below w.heap.size w w3) := HB2.out.trans (hb.mono HB2.out.size)
  have HC3 : Hid (CalsAt w3 ca C) := HC2.out.below hb
  have HV3 : Hid (HrsAt w3 va F) := HV2.out.below hb
  have HP3 : Hid (IntsAt w3 pa P) := hI
  have HL3 : Hid (HrsAt w3 la L) := HL.out.below HB3.out
  have HS3 : Hid (NdsAt w3 a S) := HS.out.below HB3.out
  have l0 := keepC m0 hb
  have L0 : Hid _ := l0
  clear hb m0 m1 m2 hI DPA HC2 HV2 HB2 HL HS
  have hmm := @run_makeMap Try.prog
  have HBm : Hid (Below w3.heap.size w3 (w3.alloc (.map #[] 0))) := one_belowS _ _
  have MK0 : Hid (MarksAt (w3.alloc (.map #[] 0)) w3.heap.size 0 (fun x => decide (x ∈ ID.take 0))) := (MarksAt.made w3).congrE (fun x => by simp)
  go_wp2_with fail
  go_loopg [12, 46] cl (fun g s12 s46 wr => ∃ i : Nat, i ≤ cl ∧ cl - i ≤ g ∧ s46 = .int .i64 i ∧ s12 = .bool (upF T i) ∧ Hid (Below w3.heap.size w3 wr) ∧ Hid (MarksAt wr w3.heap.size i (fun x => decide (x ∈ ID.take i))))
  case atStart => exact ⟨0, by omega, by omega, rfl, rfl, HBm, MK0⟩
  case round =>
    obtain ⟨i, hi, hg, rfl, rfl, HBr, MK⟩ := hrel
    clear HBm MK0 hmm
    have q3 := MK.out.lt
    have m0 := keepC l0 HBr.out
    have q0 := World.block_lt_of_cell? _ _ m0
    clear l0
    by_cases hlt : i < cl
    · have hlt2 : (i : Int) < (cl : Int) := by omega
      obtain ⟨h, q, t, ok⟩ := CF.out i hlt
      obtain ⟨cb, co, ec, c0', c1', c2', c3'⟩ := HC3.out i (by rw [HCT.out]; exact hlt)
      subst ec
      have ecl := ok.cl
      rw [HC.out] at ecl
      rw [ecl] at c0' c1' c2' c3'
      have c0 := keepC c0' HBr.out
      have c1 := keepC c1' HBr.out
      have c2 := keepC c2' HBr.out
      have c3 := keepC c3' HBr.out
      dsimp only at c0 c1 c2 c3
      have hiI : i < ID.length := by rw [HIT.out]; exact hlt
      have eid := ok.id
      rw [HID.out] at eid
      have hno := take_not IDN.out hiI eid
      have ST : Hid (∀ j : Int, (if j = h.id then true else decide (j ∈ ID.take i)) = decide (j ∈ ID.take (i + 1))) := fun j => take_step hiI eid j
      have hwf := WFI.out h ok.mem
      have hpl := ok.pl
      have hq := ok.qn
      have ht := ok.tn
      have qp := ok.qp
      rw [HP.out] at qp
      rw [HN.out] at hq ht
      have hqL : q < S.length := by rw [HN.out]; exact hq
      have htL : t < S.length := by rw [HN.out]; exact ht
      have DUt : Hid _ := DU.out t ht ok.tu
      have DSq : Hid _ := DS.out q t hq ht ok.qu ok.tu ok.sn
      have CTq : Hid _ := fun sc W => CT.out pa sc (q : Int) W qp
      have DIh : Hid _ := fun b W => DI.out h b W ok.mem
      have UPS : Hid (upF T (i + 1) = (upF T i || !h.dn)) := ok.up
      have UPD : Hid (upF T i = true → h.dn = false) := ok.dn
      have BXB : Hid (∀ o1 : Obj, Below wr.heap.size wr (wr.alloc o1)) := fun o1 => one_belowS _ _
      clear ok ecl c0' c1' c2' c3' eid hiI qp
      obtain ⟨xp, xd, xo, xs, xi⟩ := h
      dsimp only at hpl c0 c1 c2 c3 hno ST hwf DIh UPS UPD
      subst hpl
      obtain ⟨ph, hph⟩ : ∃ z, phaseF (t : Int) (q : Int) xd = z := ⟨_, rfl⟩
      have HPH : Hid (phaseF (t : Int) (q : Int) xd = ph) := hph
      rw [hph] at c3
      clear hph
      obtain ⟨U, hU⟩ : ∃ z, upF T i = z := ⟨_, rfl⟩
      rw [hU] at UPS UPD ⊢
      clear hU
      obtain ⟨V, rfl⟩ : ∃ V, V = wr := ⟨_, rfl⟩
      go_wp2_with fail
      refine Calls.mono (DIh.out V.heap.size _ (alloc_cell V _ _ 0 rfl) ((HL3.out.below HBr.out).below (one_belowS _ _))) ?_
      rintro e w4 ⟨kk, rfl, hkk, hkx, hb⟩
      have HB4 : Hid (Below V.heap.size V w4) := (one_belowS V _).trans (hb.mono (by simp))
      have x0 := keepC (alloc_cell V #[.int .i64 xi, .int .i64 (q : Int), .int .i64 (t : Int), .int .i64 ph] 38 0 rfl) hb
      have x1 := keepC (alloc_cell V #[.int .i64 xi, .int .i64 (q : Int), .int .i64 (t : Int), .int .i64 ph] 38 1 rfl) hb
      have x2 := keepC (alloc_cell V #[.int .i64 xi, .int .i64 (q : Int), .int .i64 (t : Int), .int .i64 ph] 38 2 rfl) hb
      have x3 := keepC (alloc_cell V #[.int .i64 xi, .int .i64 (q : Int), .int .i64 (t : Int), .int .i64 ph] 38 3 rfl) hb
      clear hb c0 c1 c2 c3
      have n0 := keepC m0 HB4.out
      have HB34 : Hid (Below w3.heap.size w3 w4) := HBr.out.trans (HB4.out.mono HBr.out.size)
      have MK4 : Hid (MarksAt w4 w3.heap.size i (fun x => decide (x ∈ ID.take i))) := MK.out.kept (HB4.out.block _ q3)
      obtain ⟨lb, lo, el, y0', y1', _⟩ := HL3.out kk (by rw [HM.out]; exact hkk)
      subst el
      rw [hkx] at y0' y1'
      dsimp only at y0' y1'
      have y0 := keepC y0' HB34.out
      have y1 := keepC y1' HB34.out
      clear m0 MK hkx
      have hkk2 : (kk : Int) < (m : Int) := by omega
      have kd : decide ((kk : Int) < 0) = false := decide_eq_false (by omega)
      have hlook : (Instr.lookup 36 (.map (some w3.heap.size)) (.int .i64 xi) false).run Try.prog w4.drew = .ok (.bool false) w4.drew := by
        have h := (MK4.out.kept (w' := w4.drew) rfl).look (t := 36) Try.underlying36 (k := xi) hwf
        rwa [decide_eq_false hno] at h
      have z0 := World.block_lt_of_cell? _ _ n0
      have z1 := World.block_lt_of_cell? _ _ x0
      have z2 := World.block_lt_of_cell? _ _ y0
      obtain ⟨nb, no, ea, _, u1', _⟩ := HS3.out q hqL
      subst ea
      obtain ⟨nb2, no2, ea2, _, u2', _⟩ := HS3.out t htL
      cases ea2
      have u1 := keepC u1' HB34.out
      have u2 := keepC u2' HB34.out
      have z3 := World.block_lt_of_cell? _ _ u1
      have hq2 : (q : Int) < (n : Int) := by omega
      have ht2 : (t : Int) < (n : Int) := by omega
      have KEEP : Hid (∀ W, Below w3.heap.size w3 W → W.cell? ⟨w.heap.size, 0, none⟩ = some (.slice (some ⟨nb, no, none⟩) n c) ∧ W.cell? ⟨nb, no + q * 8 + 1, none⟩ = some (.int .i64 (nd S q).n) ∧ W.cell? ⟨nb, no + t * 8 + 1, none⟩ = some (.int .i64 (nd S t).n) ∧ W.cell? ⟨lb, lo + kk * 5 + 1, none⟩ = some (.bool xd)) := fun W hW => ⟨keepC L0.out hW, keepC u1' hW, keepC u2' hW, keepC y1' hW⟩
      clear u1' u2' y0' y1'
      generalize (nd S q).n = Uq at *
      generalize (nd S t).n = Ut at *
      have q4 : w3.heap.size < w4.heap.size := MK4.out.lt
      go_wp2_with fail
      go_region_held3 (fun w'' => w''.cell? ⟨V.heap.size, 0, none⟩ = some (.int .i64 xi) ∧ w''.cell? ⟨V.heap.size, 1, none⟩ = some (.int .i64 (q : Int)) ∧ w''.cell? ⟨V.heap.size, 2, none⟩ = some (.int .i64 (t : Int)) ∧ w''.cell? ⟨lb, lo + kk * 5, none⟩ = some (.int .i64 (q : Int)) ∧ w''.cell? ⟨w.heap.size, 0, none⟩ = some (.slice (some ⟨nb, no, none⟩) n c)) (go_keep) (first | (go_at_call 10; refine Calls.mono (CTq.out pc _ ?ia) ?_; (case ia => exact HP3.out.below HB34.out.drew); rintro e w5 ⟨rfl, hw5⟩; have hw5' := hw5.symm; clear hw5; subst hw5') | (go_at_call 11; refine Calls.mono (DUt.out _ ?nd) ?_; (case nd => exact HS3.out.below HB34.out.drew); rintro e w5 ⟨rfl, hb5⟩; have HB45 : Hid (Below w4.heap.size w4 w5) := ((Below.refl w4.heap.size w4).drew).trans hb5; clear hb5; have b0 := keepC x0 HB45.out; have b1 := keepC x1 HB45.out; have b2 := keepC x2 HB45.out; have b3 := keepC x3 HB45.out; have b4 := keepC y0 HB45.out; have b5 := keepC n0 HB45.out))
      have HB35 : Hid (Below w3.heap.size w3 w5) := HB34.out.trans (HB45.out.mono HB34.out.size)
      have MK5 : Hid (MarksAt w5 w3.heap.size i (fun x => decide (x ∈ ID.take i))) := MK4.out.kept (HB45.out.block _ q4)
      clear x0 x1 x2 x3 y0 y1 n0 u1 u2 hlook MK4 b4 b5
      obtain ⟨w6, hput, mk6, gr6⟩ := MK5.out.put (t := 36) Try.underlying36 (by unfold maxLen; omega) (k := xi) hwf true
      have MK6 : Hid (MarksAt w6 w3.heap.size (i + 1) (fun x => decide (x ∈ ID.take (i + 1)))) := mk6.congrE ST.out
      have HB36 : Hid (Below w3.heap.size w3 w6) := HB35.out.grown gr6 HB35.out.size (fun k hk => by cases hk; exact Nat.le_refl _)
      have d1 : w6.cell? ⟨V.heap.size, 1, none⟩ = some (.int .i64 (q : Int)) := gr6.cell (a := ⟨V.heap.size, 1, none⟩) b1 (by intro e; have e2 : V.heap.size = w3.heap.size := Option.some.inj e; omega)
      have d2 : w6.cell? ⟨V.heap.size, 2, none⟩ = some (.int .i64 (t : Int)) := gr6.cell (a := ⟨V.heap.size, 2, none⟩) b2 (by intro e; have e2 : V.heap.size = w3.heap.size := Option.some.inj e; omega)
      have d3 : w6.cell? ⟨V.heap.size, 3, none⟩ = some (.int .i64 ph) := gr6.cell (a := ⟨V.heap.size, 3, none⟩) b3 (by intro e; have e2 : V.heap.size = w3.heap.size := Option.some.inj e; omega)
      clear mk6 gr6 MK5 b1 b2 b3
      obtain ⟨f0, f1, f2, f3⟩ := KEEP.out w6 HB36.out
      have q6 : w3.heap.size < w6.heap.size := MK6.out.lt
      go_wp2_with fail
      clear hput b0
      go_region_held3 (fun w'' => w''.cell? ⟨V.heap.size, 1, none⟩ = some (.int .i64 (q : Int)) ∧ w''.cell? ⟨V.heap.size, 2, none⟩ = some (.int .i64 (t : Int)) ∧ w''.cell? ⟨w.heap.size, 0, none⟩ = some (.slice (some ⟨nb, no, none⟩) n c) ∧ w''.cell? ⟨nb, no + q * 8 + 1, none⟩ = some (.int .i64 Uq) ∧ w''.cell? ⟨nb, no + t * 8 + 1, none⟩ = some (.int .i64 Ut)) (go_keep) (first | (go_at_call 12; refine Calls.mono (DSq.out _ ?nd) ?_; (case nd => exact HS3.out.below HB36.out.drew); rintro e w7 ⟨rfl, hb7⟩; have HB67 : Hid (Below w6.heap.size w6 w7) := ((Below.refl w6.heap.size w6).drew).trans hb7; clear hb7; have g1 := keepC d1 HB67.out; have g2 := keepC d2 HB67.out; have g3 := keepC d3 HB67.out; have g4 := keepC f0 HB67.out; have g5 := keepC f1 HB67.out; have g6 := keepC f2 HB67.out; have g7 := keepC f3 HB67.out))
      have HB37 : Hid (Below w3.heap.size w3 w7) := HB36.out.trans (HB67.out.mono HB36.out.size)
      have MK7 : Hid (MarksAt w7 w3.heap.size (i + 1) (fun x => decide (x ∈ ID.take (i + 1)))) := MK6.out.kept (HB67.out.block _ q6)
      clear d1 d2 d3 f0 f1 f2 f3 MK6 g4 g5 g6
      have hk0 : (0 : Int) ≤ (kk : Int) := by omega
      by_cases hqt : (t : Int) = (q : Int)
      · have e1 : ((q : Int) == (t : Int)) = true := by simp [hqt]
        have e2 : decide ((q : Int) = (t : Int)) = true := decide_eq_true hqt.symm
        have ep : ph = 2 := by rw [← HPH.out]; unfold phaseF; rw [if_pos hqt]
        subst ep
        clear hqt
        cases U with
        | true =>
          have ex := UPD.out rfl
          subst ex
          go_wp2_with fail
          go_roundg (cl - (i + 1))
          case measure => omega
          case rel => exact ⟨i + 1, by omega, by omega, by go_num, by rw [UPS.out]; rfl, HB37, MK7⟩
        | false =>
          cases xd with
          | true =>
            go_wp2_with fail
            go_roundg (cl - (i + 1))
            case measure => omega
            case rel => exact ⟨i + 1, by omega, by omega, by go_num, by rw [UPS.out]; rfl, HB37, MK7⟩
          | false =>
            go_wp2_with fail
            go_roundg (cl - (i + 1))
            case measure => omega
            case rel => exact ⟨i + 1, by omega, by omega, by go_num, by rw [UPS.out]; rfl, HB37, MK7⟩
      · have e1 : ((q : Int) == (t : Int)) = false := beq_eq_false_iff_ne.2 (fun e => hqt e.symm)
        have e2 : decide ((q : Int) = (t : Int)) = false := decide_eq_false (fun e => hqt e.symm)
        have ep : ph = if xd then 1 else 3 := by rw [← HPH.out]; unfold phaseF; rw [if_neg hqt]
        clear hqt
        cases U with
        | true =>
          have ex := UPD.out rfl
          subst ex
          have ep3 : ph = 3 := ep
          clear ep
          subst ep3
          go_wp2_with fail
          go_roundg (cl - (i + 1))
          case measure => omega
          case rel => exact ⟨i + 1, by omega, by omega, by go_num, by rw [UPS.out]; rfl, HB37, MK7⟩
        | false =>
          cases xd with
          | true =>
            have ep3 : ph = 1 := ep
            clear ep
            subst ep3
            go_wp2_with fail
            go_roundg (cl - (i + 1))
            case measure => omega
            case rel => exact ⟨i + 1, by omega, by omega, by go_num, by rw [UPS.out]; rfl, HB37, MK7⟩
          | false =>
            have ep3 : ph = 3 := ep
            clear ep
            subst ep3
            go_wp2_with fail
            go_roundg (cl - (i + 1))
            case measure => omega
            case rel => exact ⟨i + 1, by omega, by omega, by go_num, by rw [UPS.out]; rfl, HB37, MK7⟩
    · have hie : i = cl := by omega
      subst hie
      have MKF : Hid (MarksAt wr w3.heap.size i (fun x => decide (x ∈ ID))) := by
        have h1 := MK.out
        rw [List.take_of_length_le (by rw [HIT.out]; omega)] at h1
        exact h1
      clear MK m0 q0
      obtain ⟨U, hU⟩ : ∃ z, upF T i = z := ⟨_, rfl⟩
      rw [hU]
      clear hU DI DU DS CT CF
      have HBf : Hid (Below w3.heap.size w3 wr) := HBr
      clear HBr
      go_wp2_with fail
      go_loopg [177] m (fun g s177 wr => ∃ j : Nat, j ≤ m ∧ m - j ≤ g ∧ s177 = .int .i64 j ∧ Hid (Below w3.heap.size w3 wr) ∧ Hid (MarksAt wr w3.heap.size i (fun x => decide (x ∈ ID))))
      case atStart => exact ⟨0, by omega, by omega, rfl, HBf, MKF⟩
      case round =>
        obtain ⟨j, hj, hg2, rfl, HBj, MK⟩ := hrel
        clear MKF HBf
        have q5 := MK.out.lt
        by_cases hlt3 : j < m
        · have hlt4 : (j : Int) < (m : Int) := by omega
          have hjL : j < L.length := by rw [HM.out]; exact hlt3
          obtain ⟨lb, lo, el, y0, y1, y2, y3, y4⟩ := (HL3.out.below HBj.out) j hjL
          subst el
          have hmem : hr L j ∈ L := by rw [hr_elem hjL]; exact List.getElem_mem hjL
          have hwf := WFI.out _ hmem
          have hhas := LH'.out _ hmem
          have CO : Hid (∀ W, HrsAt W va F → Calls _ _ _ _ _) := fun W hW => containsHr_any va vc F (hr L j) W (by rw [HFL.out]; omega) hW
          rw [hhas] at CO
          clear hhas hjL hmem
          generalize hr L j = x at *
          obtain ⟨xp, xd, xo, xs, xi⟩ := x
          dsimp only at y0 y1 y2 y3 y4 hwf CO
          rw [HFL.out] at CO
          obtain ⟨V, rfl⟩ : ∃ V, V = wr := ⟨_, rfl⟩
          have MKb : Hid (∀ o1 : Obj, MarksAt (V.alloc o1) w3.heap.size i (fun x => decide (x ∈ ID))) := fun o1 => MK.out.kept ((one_belowS V o1).block _ q5)
          clear MK
          have HVF : Hid (∀ o1 : Obj, HrsAt (V.alloc o1).drew va F) := fun o1 => (HV3.out.below HBj.out).below (one_belowS V o1).drew
          obtain ⟨sb, hsb⟩ : ∃ z, decide (xi ∈ ID) = z := ⟨_, rfl⟩
          rw [hsb] at CO
          have HSB : Hid (decide (xi ∈ ID) = sb) := hsb
          clear hsb
          obtain ⟨o1, ho1⟩ : ∃ o1 : Obj, o1 = .cells #[.int .i64 xp, .bool xd, .bool xo, .bool xs, .int .i64 xi] 41 := ⟨_, rfl⟩
          cases xo with
          | false =>
            have hla : (Instr.lookup 36 (.map (some w3.heap.size)) (.int .i64 xi) false).run Try.prog (V.alloc o1).drew = .ok (.bool sb) (V.alloc o1).drew := by
              have h := ((MKb.out o1).kept (w' := (V.alloc o1).drew) rfl).look (t := 36) Try.underlying36 (k := xi) hwf
              rwa [HSB.out] at h
            subst ho1
            have k0 := alloc_cell V #[.int .i64 xp, .bool xd, .bool false, .bool xs, .int .i64 xi] 41 0 rfl
            have k1 := alloc_cell V #[.int .i64 xp, .bool xd, .bool false, .bool xs, .int .i64 xi] 41 1 rfl
            have k2 := alloc_cell V #[.int .i64 xp, .bool xd, .bool false, .bool xs, .int .i64 xi] 41 2 rfl
            have k3 := alloc_cell V #[.int .i64 xp, .bool xd, .bool false, .bool xs, .int .i64 xi] 41 3 rfl
            have k4 := alloc_cell V #[.int .i64 xp, .bool xd, .bool false, .bool xs, .int .i64 xi] 41 4 rfl
            have BEL : Hid (∀ W, Below (V.alloc (.cells #[.int .i64 xp, .bool xd, .bool false, .bool xs, .int .i64 xi] 41)).drew.heap.size (V.alloc (.cells #[.int .i64 xp, .bool xd, .bool false, .bool xs, .int .i64 xi] 41)).drew W → Below w3.heap.size w3 W ∧ MarksAt W w3.heap.size i (fun x => decide (x ∈ ID)) ∧ (Instr.lookup 36 (.map (some w3.heap.size)) (.int .i64 xi) false).run Try.prog W = .ok (.bool sb) W) := fun W hW => by
              have h1 : MarksAt W w3.heap.size i (fun x => decide (x ∈ ID)) := ((MKb.out _).kept (w' := (V.alloc (.cells #[.int .i64 xp, .bool xd, .bool false, .bool xs, .int .i64 xi] 41)).drew) rfl).kept (hW.block _ (MKb.out _).lt)
              refine ⟨(HBj.out.trans (((one_belowS V _).drew).mono HBj.out.size)).trans (hW.mono (Nat.le_trans HBj.out.size (by show _ ≤ (V.alloc _).heap.size; simp))), h1, ?_⟩
              have h := h1.look (t := 36) Try.underlying36 (k := xi) hwf
              rwa [HSB.out] at h
            go_wp2_with fail
            refine wp_region_noPanic ?_
            refine wp_region_held_drew (S := fun w'' => w''.cell? ⟨V.heap.size, 0, none⟩ = some (.int .i64 xp) ∧ w''.cell? ⟨V.heap.size, 1, none⟩ = some (.bool xd) ∧ w''.cell? ⟨V.heap.size, 2, none⟩ = some (.bool false) ∧ w''.cell? ⟨V.heap.size, 3, none⟩ = some (.bool xs) ∧ w''.cell? ⟨V.heap.size, 4, none⟩ = some (.int .i64 xi)) (by kernel_rfl) (by (try dsimp only); go_keep) (fun hHeld => ?_)
            refine wpAnyH_take (i := 0) (v := ?_) rfl (by kernel_rfl) (by kernel_rfl) (by kernel_rfl) (fun _ _ _ h => h) (Or.inl ⟨by rfl, ?_⟩) (by assumption) ?_
            rotate_left
            · intro w hSw; (try dsimp only at hSw); first | (go_simp; done) | (go_simp; with_reducible rfl)
            simp [Act.put]
            refine wpAnyH_take (i := 1) (v := ?_) rfl (by kernel_rfl) (by kernel_rfl) (by kernel_rfl) (fun _ _ _ h => h) (Or.inl ⟨by rfl, ?_⟩) (by assumption) ?_
            rotate_left
            · intro w hSw; (try dsimp only at hSw); first | (go_simp; done) | (go_simp; with_reducible rfl)
            simp [Act.put]
            refine wpAnyH_take (i := 3) (v := ?_) rfl (by kernel_rfl) (by kernel_rfl) (by kernel_rfl) (fun _ _ _ h => h) (Or.inl ⟨by rfl, ?_⟩) (by assumption) ?_
            rotate_left
            · intro w hSw; (try dsimp only at hSw); first | (go_simp; done) | (go_simp; with_reducible rfl)
            simp [Act.put]
            refine wpAnyH_take (i := 4) (v := ?_) rfl (by kernel_rfl) (by kernel_rfl) (by kernel_rfl) (fun _ _ _ h => h) (Or.inl ⟨by rfl, ?_⟩) (by assumption) ?_
            rotate_left
            · intro w hSw; (try dsimp only at hSw); first | (go_simp; done) | (go_simp; with_reducible rfl)
            simp [Act.put]
            refine wpAnyH_ready (rs := [2]) (by kernel_rfl) (by simp) ?_
            refine AllReadyH.cons rfl (fun K hK => ?_) AllReadyH.nil
            go_simp
            refine Calls.mono (CO.out _ (HVF.out _)) ?_
            rintro e w5 ⟨rfl, hb5⟩
            obtain ⟨hB5, hM5, hl5⟩ := BEL.out w5 hb5
            have HB5 : Hid _ := hB5
            have MK5 : Hid _ := hM5
            have j0 := keepC (show (V.alloc (.cells #[.int .i64 xp, .bool xd, .bool false, .bool xs, .int .i64 xi] 41)).drew.cell? _ = _ from k0) hb5
            have j1 := keepC (show (V.alloc (.cells #[.int .i64 xp, .bool xd, .bool false, .bool xs, .int .i64 xi] 41)).drew.cell? _ = _ from k1) hb5
            have j2 := keepC (show (V.alloc (.cells #[.int .i64 xp, .bool xd, .bool false, .bool xs, .int .i64 xi] 41)).drew.cell? _ = _ from k2) hb5
            have j3 := keepC (show (V.alloc (.cells #[.int .i64 xp, .bool xd, .bool false, .bool xs, .int .i64 xi] 41)).drew.cell? _ = _ from k3) hb5
            have j4 := keepC (show (V.alloc (.cells #[.int .i64 xp, .bool xd, .bool false, .bool xs, .int .i64 xi] 41)).drew.cell? _ = _ from k4) hb5
            clear hb5 hB5 hM5
            go_wp2_with fail
            refine hK.out _ _ ?_ (fun hHeld => ?_)
            · (try dsimp only)
              go_keep
            clear hK K
            try simp [Act.put]
            refine wpAnyH_take (i := 5) (v := ?_) rfl (by kernel_rfl) (by kernel_rfl) (by kernel_rfl) (fun _ _ _ h => h) (Or.inl ⟨by rfl, ?_⟩) (by assumption) ?_
            rotate_left
            · intro w hSw; (try dsimp only at hSw); first | (go_simp; done) | (go_simp; with_reducible rfl)
            simp [Act.put]
            refine wpAnyH_take (i := 6) (v := undef) rfl (by kernel_rfl) (by kernel_rfl) (by kernel_rfl) (fun _ _ _ h => h) (Or.inr ⟨by rfl, rfl⟩) (by assumption) ?_
            simp [Act.put]
            refine wpAnyH_take (i := 7) (v := undef) rfl (by kernel_rfl) (by kernel_rfl) (by kernel_rfl) (fun _ _ _ h => h) (Or.inr ⟨by rfl, rfl⟩) (by assumption) ?_
            simp [Act.put]
            refine wpAnyH_take (i := 8) (v := undef) rfl (by kernel_rfl) (by kernel_rfl) (by kernel_rfl) (fun _ _ _ h => h) (Or.inr ⟨by rfl, rfl⟩) (by assumption) ?_
            simp [Act.put]
            refine wpAnyH_take (i := 9) (v := undef) rfl (by kernel_rfl) (by kernel_rfl) (by kernel_rfl) (fun _ _ _ h => h) (Or.inr ⟨by rfl, rfl⟩) (by assumption) ?_
            simp [Act.put]
            refine wpAnyH_take (i := 10) (v := ?_) rfl (by kernel_rfl) (by kernel_rfl) (by kernel_rfl) (fun _ _ _ h => h) (Or.inl ⟨by rfl, ?_⟩) (by assumption) ?_
            rotate_left
            · intro w hSw; (try dsimp only at hSw); first | (go_simp; done) | (go_simp; with_reducible rfl)
            simp [Act.put]
            refine wpAnyH_take (i := 11) (v := ?_) rfl (by kernel_rfl) (by kernel_rfl) (by kernel_rfl) (fun _ _ _ h => h) (Or.inl ⟨by rfl, ?_⟩) (by assumption) ?_
            rotate_left
            · intro w hSw; (try dsimp only at hSw); first | (go_simp; done) | (go_simp; with_reducible rfl)
            simp [Act.put]
            refine wpAnyH_done (by kernel_rfl) ?_ _
            refine NoPanic.normal ?_
            go_wp2_with fail
            go_roundg (m - (j + 1))
            case measure => omega
            case rel => exact ⟨j + 1, by omega, by omega, by go_num, HB5, MK5⟩
          | true =>
            cases sb with
            | false =>
              have hla : (Instr.lookup 36 (.map (some w3.heap.size)) (.int .i64 xi) false).run Try.prog (V.alloc o1).drew = .ok (.bool false) (V.alloc o1).drew := by
                have h := ((MKb.out o1).kept (w' := (V.alloc o1).drew) rfl).look (t := 36) Try.underlying36 (k := xi) hwf
                rwa [HSB.out] at h
              subst ho1
              have k0 := alloc_cell V #[.int .i64 xp, .bool xd, .bool true, .bool xs, .int .i64 xi] 41 0 rfl
              have k1 := alloc_cell V #[.int .i64 xp, .bool xd, .bool true, .bool xs, .int .i64 xi] 41 1 rfl
              have k2 := alloc_cell V #[.int .i64 xp, .bool xd, .bool true, .bool xs, .int .i64 xi] 41 2 rfl
              have k3 := alloc_cell V #[.int .i64 xp, .bool xd, .bool true, .bool xs, .int .i64 xi] 41 3 rfl
              have k4 := alloc_cell V #[.int .i64 xp, .bool xd, .bool true, .bool xs, .int .i64 xi] 41 4 rfl
              have BEL : Hid (∀ W, Below (V.alloc (.cells #[.int .i64 xp, .bool xd, .bool true, .bool xs, .int .i64 xi] 41)).drew.heap.size (V.alloc (.cells #[.int .i64 xp, .bool xd, .bool true, .bool xs, .int .i64 xi] 41)).drew W → Below w3.heap.size w3 W ∧ MarksAt W w3.heap.size i (fun x => decide (x ∈ ID)) ∧ (Instr.lookup 36 (.map (some w3.heap.size)) (.int .i64 xi) false).run Try.prog W = .ok (.bool false) W) := fun W hW => by
                have h1 : MarksAt W w3.heap.size i (fun x => decide (x ∈ ID)) := ((MKb.out _).kept (w' := (V.alloc (.cells #[.int .i64 xp, .bool xd, .bool true, .bool xs, .int .i64 xi] 41)).drew) rfl).kept (hW.block _ (MKb.out _).lt)
                refine ⟨(HBj.out.trans (((one_belowS V _).drew).mono HBj.out.size)).trans (hW.mono (Nat.le_trans HBj.out.size (by show _ ≤ (V.alloc _).heap.size; simp))), h1, ?_⟩
                have h := h1.look (t := 36) Try.underlying36 (k := xi) hwf
                rwa [HSB.out] at h
              go_wp2_with fail
              first | (go_region_held3 (fun w'' => w''.cell? ⟨V.heap.size, 0, none⟩ = some (.int .i64 xp) ∧ w''.cell? ⟨V.heap.size, 1, none⟩ = some (.bool xd) ∧ w''.cell? ⟨V.heap.size, 2, none⟩ = some (.bool true) ∧ w''.cell? ⟨V.heap.size, 3, none⟩ = some (.bool xs) ∧ w''.cell? ⟨V.heap.size, 4, none⟩ = some (.int .i64 xi)) (go_keep) (first | (go_at_call 13; refine Calls.mono (CO.out _ (HVF.out _)) ?_; rintro e w5 ⟨rfl, hb5⟩; obtain ⟨hB5, hM5, hl5⟩ := BEL.out w5 hb5; have HB5 : Hid _ := hB5; have MK5 : Hid _ := hM5; have j0 := keepC (show (V.alloc (.cells #[.int .i64 xp, .bool xd, .bool true, .bool xs, .int .i64 xi] 41)).drew.cell? _ = _ from k0) hb5; have j1 := keepC (show (V.alloc (.cells #[.int .i64 xp, .bool xd, .bool true, .bool xs, .int .i64 xi] 41)).drew.cell? _ = _ from k1) hb5; have j2 := keepC (show (V.alloc (.cells #[.int .i64 xp, .bool xd, .bool true, .bool xs, .int .i64 xi] 41)).drew.cell? _ = _ from k2) hb5; have j3 := keepC (show (V.alloc (.cells #[.int .i64 xp, .bool xd, .bool true, .bool xs, .int .i64 xi] 41)).drew.cell? _ = _ from k3) hb5; have j4 := keepC (show (V.alloc (.cells #[.int .i64 xp, .bool xd, .bool true, .bool xs, .int .i64 xi] 41)).drew.cell? _ = _ from k4) hb5; clear hb5 hB5 hM5))) | fail
              all_goals go_wp2_with fail
              all_goals go_roundg (m - (j + 1))
              any_goals (case measure => omega)
              all_goals exact ⟨j + 1, by omega, by omega, by go_num, HB5, MK5⟩
            | true =>
              have hla : (Instr.lookup 36 (.map (some w3.heap.size)) (.int .i64 xi) false).run Try.prog (V.alloc o1).drew = .ok (.bool true) (V.alloc o1).drew := by
                have h := ((MKb.out o1).kept (w' := (V.alloc o1).drew) rfl).look (t := 36) Try.underlying36 (k := xi) hwf
                rwa [HSB.out] at h
              subst ho1
              have k0 := alloc_cell V #[.int .i64 xp, .bool xd, .bool true, .bool xs, .int .i64 xi] 41 0 rfl
              have k1 := alloc_cell V #[.int .i64 xp, .bool xd, .bool true, .bool xs, .int .i64 xi] 41 1 rfl
              have k2 := alloc_cell V #[.int .i64 xp, .bool xd, .bool true, .bool xs, .int .i64 xi] 41 2 rfl
              have k3 := alloc_cell V #[.int .i64 xp, .bool xd, .bool true, .bool xs, .int .i64 xi] 41 3 rfl
              have k4 := alloc_cell V #[.int .i64 xp, .bool xd, .bool true, .bool xs, .int .i64 xi] 41 4 rfl
              have BEL : Hid (∀ W, Below (V.alloc (.cells #[.int .i64 xp, .bool xd, .bool true, .bool xs, .int .i64 xi] 41)).drew.heap.size (V.alloc (.cells #[.int .i64 xp, .bool xd, .bool true, .bool xs, .int .i64 xi] 41)).drew W → Below w3.heap.size w3 W ∧ MarksAt W w3.heap.size i (fun x => decide (x ∈ ID)) ∧ (Instr.lookup 36 (.map (some w3.heap.size)) (.int .i64 xi) false).run Try.prog W = .ok (.bool true) W) := fun W hW => by
                have h1 : MarksAt W w3.heap.size i (fun x => decide (x ∈ ID)) := ((MKb.out _).kept (w' := (V.alloc (.cells #[.int .i64 xp, .bool xd, .bool true, .bool xs, .int .i64 xi] 41)).drew) rfl).kept (hW.block _ (MKb.out _).lt)
                refine ⟨(HBj.out.trans (((one_belowS V _).drew).mono HBj.out.size)).trans (hW.mono (Nat.le_trans HBj.out.size (by show _ ≤ (V.alloc _).heap.size; simp))), h1, ?_⟩
                have h := h1.look (t := 36) Try.underlying36 (k := xi) hwf
                rwa [HSB.out] at h
              go_wp2_with fail
              first | (go_region_held3 (fun w'' => w''.cell? ⟨V.heap.size, 0, none⟩ = some (.int .i64 xp) ∧ w''.cell? ⟨V.heap.size, 1, none⟩ = some (.bool xd) ∧ w''.cell? ⟨V.heap.size, 2, none⟩ = some (.bool true) ∧ w''.cell? ⟨V.heap.size, 3, none⟩ = some (.bool xs) ∧ w''.cell? ⟨V.heap.size, 4, none⟩ = some (.int .i64 xi)) (go_keep) (first | (go_at_call 13; refine Calls.mono (CO.out _ (HVF.out _)) ?_; rintro e w5 ⟨rfl, hb5⟩; obtain ⟨hB5, hM5, hl5⟩ := BEL.out w5 hb5; have HB5 : Hid _ := hB5; have MK5 : Hid _ := hM5; have j0 := keepC (show (V.alloc (.cells #[.int .i64 xp, .bool xd, .bool true, .bool xs, .int .i64 xi] 41)).drew.cell? _ = _ from k0) hb5; have j1 := keepC (show (V.alloc (.cells #[.int .i64 xp, .bool xd, .bool true, .bool xs, .int .i64 xi] 41)).drew.cell? _ = _ from k1) hb5; have j2 := keepC (show (V.alloc (.cells #[.int .i64 xp, .bool xd, .bool true, .bool xs, .int .i64 xi] 41)).drew.cell? _ = _ from k2) hb5; have j3 := keepC (show (V.alloc (.cells #[.int .i64 xp, .bool xd, .bool true, .bool xs, .int .i64 xi] 41)).drew.cell? _ = _ from k3) hb5; have j4 := keepC (show (V.alloc (.cells #[.int .i64 xp, .bool xd, .bool true, .bool xs, .int .i64 xi] 41)).drew.cell? _ = _ from k4) hb5; clear hb5 hB5 hM5))) | fail
              all_goals go_wp2_with fail
              all_goals go_roundg (m - (j + 1))
              any_goals (case measure => omega)
              all_goals exact ⟨j + 1, by omega, by omega, by go_num, HB5, MK5⟩
        · have hie : j = m := by omega
          subst hie
          have hfm2 : (fl : Int) ≤ (j : Int) := by omega
          have HBW : Hid (Below w.heap.size w wr) := HB3.out.trans (HBj.out.mono HB3.out.size)
          clear MK
          go_wp2_with fail
          go_ret
          exact ⟨rfl, HBW.out⟩

end Go.Proofs.Ytebhlcjljdgnkaa
