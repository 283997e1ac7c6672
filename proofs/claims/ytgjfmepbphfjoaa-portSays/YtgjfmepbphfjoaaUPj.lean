/-
  The reference's PortsOpened.
-/
import Derived.Test.YtgjfmepbphfjoaaUPg
namespace Go.Proofs.Ytgjfmepbphfjoaa
open Go.RowKit Go.ChangeShapes Go.WideShapes
set_option linter.unusedVariables false

/-- append onto a row of the call's own of whatever slice, nil too. -/
theorem wpList_append_all {P : Program} {ops : Array Oper} {rest : List Oper} {o : Oper} {a : Act} {w : World} {Q : Exit → Act → World → Prop}
    (hg : o.guard = none) (s x : Operand) (t : TypeId) (hop : o.op = Op.call { callee := Callee.builtin Builtin.append, args := #[s, x], argTypes := #[t, t] })
    (base : Nat) (e : TypeId) (i : TypeInfo) (z : Value) (size bytes : Nat) (h1 : P.underlying t = some (.slice e)) (h2 : P.info? e = some i) (h3 : i.zero = some z) (h4 : i.size = size) (h5 : i.bytes = bytes) (h6 : z.cells.size = size) (h7 : 0 < size)
    (v : Value) (n : Nat) (xs : List Value) (hs : a.eval s = v) (hown : w.ownsRow base e size v n xs)
    (sa : Option Addr) (m c : Nat) (news : List Value) (hnil : sa = none → m = 0 ∧ c = 0) (hx : a.eval x = .slice sa m c) (hn : news.length = m * size) (hc : ∀ ad, sa = some ad → ∀ j u, news[j]? = some u → w.cell? (ad.add j) = some u) (h1c : ∀ u ∈ news, u.oneCell' = true)
    (b1 : n + m ≤ maxLen) (b2 : (n + m) * bytes ≤ 140737488355328) (hbase : base ≤ w.heap.size)
    (hK : ∀ v' w', w'.ownsRow base e size v' (n + m) (xs ++ news) → w.grownBy w' v.ownBlock → wpList P ops Q rest (a.put o.dst v') w') :
    wpList P ops Q (o :: rest) a w := by
  cases sa with
  | some ad => exact wpList_append_own w hg s x t hop base e i z size bytes h1 h2 h3 h4 h5 h6 h7 v n xs hs hown ad m c news hx hn (hc ad rfl) h1c b1 b2 hbase (fun v' w' r1 r2 _ => hK v' w' r1 r2)
  | none =>
    obtain ⟨rfl, rfl⟩ := hnil rfl
    have en : news = [] := List.eq_nil_of_length_eq_zero (by rw [hn]; simp)
    subst en
    exact wpList_append_own_none hg s x t hop base e i size h1 h2 v n xs hs hown hx (hK v w (by simpa using hown) (grown_refl w _))
theorem row_sliceP {w : World} {B t n : Nat} {size : Nat} {v : Value} {xs : List Value} (h : w.ownsRow B t size v n xs) : ∃ va vc, v = .slice va n vc := by
  rcases h.2 with ⟨e, e0⟩ | ⟨g, cap, cur, e, _⟩
  · exact ⟨none, 0, by rw [e, e0]⟩
  · exact ⟨_, cap, e⟩
theorem newsP {W : World} {b : Nat} {x : Pt} {v : Value} (c0 : W.cell? ⟨b, 0, none⟩ = some (.int .i64 x.o)) (c1 : W.cell? ⟨b, 1, none⟩ = some (.int .i64 x.t)) (c2 : W.cell? ⟨b, 2, none⟩ = some (.int .i64 x.m)) (c3 : W.cell? ⟨b, 3, none⟩ = some v) (c4 : W.cell? ⟨b, 4, none⟩ = some (.bool x.s)) : ∀ j u, (pcell x v)[j]? = some u → W.cell? ((⟨b, 0, none⟩ : Addr).add j) = some u := fun j u hj => by
  rw [Addr.add_lit, Nat.zero_add]
  unfold pcell at hj
  match j, hj with
  | 0, hj => cases hj; exact c0
  | 1, hj => cases hj; exact c1
  | 2, hj => cases hj; exact c2
  | 3, hj => cases hj; exact c3
  | 4, hj => cases hj; exact c4
theorem pcell_one (x : Pt) : ∀ u ∈ pcell x (.slice none 0 0), u.oneCell' = true := fun u hu => by
  unfold pcell at hu
  simp at hu
  rcases hu with rfl | rfl | rfl | rfl | rfl <;> rfl

theorem pts_nil {w : World} {a : Option Addr} {L : List Pt} (h : PtsAt w a L) (e : a = none) : L.length = 0 := by
  by_cases hl : L.length = 0
  · exact hl
  · obtain ⟨b, oo, e2, _⟩ := h 0 (by omega)
    rw [e] at e2
    cases e2
theorem open_snoc (L : List Pt) (o t : Int) : openL L o t = (L ++ [⟨o, t, (L.length : Int) + 1, [], false⟩]) ++ [⟨o, t, (L.length : Int), [], false⟩] := by
  unfold openL
  rw [List.append_assoc]
  rfl
theorem open_len (L : List Pt) (o t : Int) : (openL L o t).length = L.length + 1 + 1 := by
  rw [open_snoc, List.length_append, List.length_append]
  rfl
theorem open_fin {w w9 : World} {a : Option Addr} {L : List Pt} {o t : Int} {v9 : Value} {B : Nat} (hL : PtsAt w a L) (hb9 : Below w.heap.size w w9) (hrow : w9.ownsRow B 47 5 v9 (L.length + 1 + 1) (pcells L (kOf w a) ++ pcell ⟨o, t, (L.length : Int) + 1, [], false⟩ (.slice none 0 0) ++ pcell ⟨o, t, (L.length : Int), [], false⟩ (.slice none 0 0))) : ∃ va vc, v9 = .slice va (openL L o t).length vc ∧ PtsAt w9 va (openL L o t) := by
  have el := open_len L o t
  have eo := open_snoc L o t
  have l1 : (L ++ [(⟨o, t, (L.length : Int) + 1, [], false⟩ : Pt)]).length = L.length + 1 := by rw [List.length_append]; rfl
  rw [pcells_snoc, pcells_snoc, ← eo] at hrow
  refine pts_own (B := B) (by rw [el]; exact hrow) (fun i hi => ?_)
  rw [el] at hi
  rw [eo, l1]
  by_cases e1 : i < L.length
  · rw [if_neg (by omega), if_neg (by omega), pt_left (by rw [l1]; omega), pt_left e1]
    exact (k_grs hL i e1).below hb9
  · by_cases e2 : i = L.length
    · subst e2
      rw [if_neg (by omega), if_pos rfl, pt_left (by rw [l1]; omega), pt_last]
      exact GrsV.nil w9
    · have e3 : i = L.length + 1 := by omega
      rw [if_pos e3, e3]
      have h := pt_last (L ++ [(⟨o, t, (L.length : Int) + 1, [], false⟩ : Pt)]) ⟨o, t, (L.length : Int), [], false⟩
      rw [l1] at h
      rw [h]
      exact GrsV.nil w9

set_option maxRecDepth 100000 in
set_option maxHeartbeats 2000000 in
theorem ropen_err (a : Option Addr) (c : Nat) (L : List Pt) (Fr o t : Int) (w : World) (hN : L.length ≤ 9223372036854775807) (hB : BigP L) (hL : PtsAt w a L) (hE : openE L Fr o t ≠ 0) :
    Calls Try.prog 10 #[.slice a L.length c, .int .i64 Fr, .int .i64 o, .int .i64 t] w fun e w' => e = .returned (.tuple #[.slice none 0 0, .int .i64 0, .int .i64 (openE L Fr o t)]) ∧ Below w.heap.size w w' := by
  have DC : Hid _ := rpcheck_any a c L Fr w hN hB hL
  have DB : Hid (∀ W, _) := fun W => rbelowP_any o Fr W
  have DT : Hid (∀ W, _) := fun W => rin_anyC t 0 1000 W
  clear hL hB
  by_cases h1 : pcheckE L Fr = 0
  · rw [h1] at DC
    have hN12 := (pcheck_zero.1 h1).few
    by_cases h2 : 0 ≤ o ∧ o < Fr
    · rw [decide_eq_true h2] at DB
      by_cases h3 : 0 ≤ t ∧ t ≤ 1000
      · rw [decide_eq_true h3] at DT
        by_cases h4 : 10 < L.length
        · have e : openE L Fr o t = 1 := by unfold openE; rw [if_neg (not_not_intro h1), if_neg (not_not_intro h2), if_neg (not_not_intro h3), if_pos h4]
          rw [e]
          have g1 : decide ((10 : Int) < (L.length : Int)) = true := decide_eq_true (by omega)
          clear e hE h1 h2 h3
          generalize L.length = n at *
          go_enter Try.func10, Try.ntmps10
          go_wp2_with fail
          refine Calls.mono DC.out ?_
          rintro e w1 ⟨rfl, hb⟩
          have HB1 : Hid (Below w.heap.size w w1) := hb
          clear hb DC
          go_wp2_with fail
          refine Calls.mono (DB.out _) ?_
          rintro e w2 ⟨rfl, hw2⟩
          have hw3 := hw2.symm
          clear hw2
          subst hw3
          go_wp2_with fail
          refine Calls.mono (DT.out _) ?_
          rintro e w2 ⟨rfl, hw2⟩
          have hw3 := hw2.symm
          clear hw2
          subst hw3
          go_wp2_with fail
          exact bodyPost_ret (v := .tuple #[.slice none 0 0, .int .i64 0, .int .i64 1]) (by simp [results, Try.results10, go_sem]) rfl ⟨rfl, HB1.out⟩
        · exact absurd (by unfold openE; rw [if_neg (not_not_intro h1), if_neg (not_not_intro h2), if_neg (not_not_intro h3), if_neg h4]) hE
      · rw [decide_eq_false h3] at DT
        have e : openE L Fr o t = 2 := by unfold openE; rw [if_neg (not_not_intro h1), if_neg (not_not_intro h2), if_pos h3]
        rw [e]
        clear e hE h1 h2 h3
        generalize L.length = n at *
        go_enter Try.func10, Try.ntmps10
        go_wp2_with fail
        refine Calls.mono DC.out ?_
        rintro e w1 ⟨rfl, hb⟩
        have HB1 : Hid (Below w.heap.size w w1) := hb
        clear hb DC
        go_wp2_with fail
        refine Calls.mono (DB.out _) ?_
        rintro e w2 ⟨rfl, hw2⟩
        have hw3 := hw2.symm
        clear hw2
        subst hw3
        go_wp2_with fail
        refine Calls.mono (DT.out _) ?_
        rintro e w2 ⟨rfl, hw2⟩
        have hw3 := hw2.symm
        clear hw2
        subst hw3
        go_wp2_with fail
        exact bodyPost_ret (v := .tuple #[.slice none 0 0, .int .i64 0, .int .i64 2]) (by simp [results, Try.results10, go_sem]) rfl ⟨rfl, HB1.out⟩
    · rw [decide_eq_false h2] at DB
      have e : openE L Fr o t = 4 := by unfold openE; rw [if_neg (not_not_intro h1), if_pos h2]
      rw [e]
      clear e hE h1 h2
      generalize L.length = n at *
      go_enter Try.func10, Try.ntmps10
      go_wp2_with fail
      refine Calls.mono DC.out ?_
      rintro e w1 ⟨rfl, hb⟩
      have HB1 : Hid (Below w.heap.size w w1) := hb
      clear hb DC
      go_wp2_with fail
      refine Calls.mono (DB.out _) ?_
      rintro e w2 ⟨rfl, hw2⟩
      have hw3 := hw2.symm
      clear hw2
      subst hw3
      go_wp2_with fail
      exact bodyPost_ret (v := .tuple #[.slice none 0 0, .int .i64 0, .int .i64 4]) (by simp [results, Try.results10, go_sem]) rfl ⟨rfl, HB1.out⟩
  · have e : openE L Fr o t = pcheckE L Fr := by unfold openE; rw [if_pos h1]
    rw [e]
    have y1 : decide (pcheckE L Fr = 0) = false := decide_eq_false h1
    have y2 : (pcheckE L Fr == 0) = false := by simp [h1]
    clear e hE
    generalize pcheckE L Fr = E at *
    generalize L.length = n at *
    go_enter Try.func10, Try.ntmps10
    go_wp2_with fail
    refine Calls.mono DC.out ?_
    rintro e w1 ⟨rfl, hb⟩
    have HB1 : Hid (Below w.heap.size w w1) := hb
    clear hb DC
    go_wp2_with fail
    exact bodyPost_ret (v := .tuple #[.slice none 0 0, .int .i64 0, .int .i64 E]) (by simp [results, Try.results10, go_sem]) rfl ⟨rfl, HB1.out⟩

set_option maxRecDepth 100000 in
set_option maxHeartbeats 4000000 in
theorem ropen_ok (a : Option Addr) (c : Nat) (L : List Pt) (Fr o t : Int) (w : World) (hB : BigP L) (hL : PtsAt w a L) (hcn : a = none → c = 0) (hE : openE L Fr o t = 0) :
    Calls Try.prog 10 #[.slice a L.length c, .int .i64 Fr, .int .i64 o, .int .i64 t] w fun e w' => ∃ va vc, e = .returned (.tuple #[.slice va (openL L o t).length vc, .int .i64 (L.length : Int), .int .i64 0]) ∧ Below w.heap.size w w' ∧ PtsAt w' va (openL L o t) := by
  unfold openE at hE
  have h1 : pcheckE L Fr = 0 := by
    by_cases h : pcheckE L Fr = 0
    · exact h
    · rw [if_pos h] at hE; exact absurd hE h
  rw [if_neg (not_not_intro h1)] at hE
  have h2 : 0 ≤ o ∧ o < Fr := by
    by_cases h : 0 ≤ o ∧ o < Fr
    · exact h
    · rw [if_pos h] at hE; cases hE
  rw [if_neg (not_not_intro h2)] at hE
  have h3 : 0 ≤ t ∧ t ≤ 1000 := by
    by_cases h : 0 ≤ t ∧ t ≤ 1000
    · exact h
    · rw [if_pos h] at hE; cases hE
  rw [if_neg (not_not_intro h3)] at hE
  have h4 : L.length ≤ 10 := by
    by_cases h : 10 < L.length
    · rw [if_pos h] at hE; cases hE
    · omega
  have DC : Hid _ := rpcheck_any a c L Fr w (by omega) hB hL
  have DB : Hid (∀ W, _) := fun W => rbelowP_any o Fr W
  have DT : Hid (∀ W, _) := fun W => rin_anyC t 0 1000 W
  rw [h1] at DC
  rw [decide_eq_true h2] at DB
  rw [decide_eq_true h3] at DT
  obtain ⟨i0, hi0, hz0, hz1, hz2⟩ := info_parts infoPort
  have NIL : Hid (a = none → L.length = 0 ∧ c = 0) := fun e => ⟨pts_nil hL e, hcn e⟩
  have SRC : Hid (∀ W, Below w.heap.size w W → ∀ ad, a = some ad → ∀ j u, (pcells L (kOf w a))[j]? = some u → W.cell? (ad.add j) = some u) := fun W hW ad e j u hj => by
    subst e
    by_cases hl : L.length = 0
    · rw [List.getElem?_eq_none (by rw [pcells_len]; omega)] at hj
      cases hj
    · obtain ⟨b, oo, e2, _⟩ := hL 0 (by omega)
      cases e2
      have h1 := k_src hL j u hj
      exact (hW.cell (World.block_lt_of_cell? _ _ h1)).trans h1
  have LEN : Hid ((pcells L (kOf w a)).length = L.length * 5) := pcells_len _ _
  have ONE : Hid (∀ u ∈ pcells L (kOf w a), u.oneCell' = true) := pcells_one (k_grs hL)
  have FIN : Hid (∀ (w9 : World) (v9 : Value) (B : Nat), Below w.heap.size w w9 → w9.ownsRow B 47 5 v9 (L.length + 1 + 1) (pcells L (kOf w a) ++ pcell ⟨o, t, (L.length : Int) + 1, [], false⟩ (.slice none 0 0) ++ pcell ⟨o, t, (L.length : Int), [], false⟩ (.slice none 0 0)) → ∃ va vc, v9 = .slice va (openL L o t).length vc ∧ PtsAt w9 va (openL L o t)) := fun w9 v9 B hb9 hrow => open_fin hL hb9 hrow
  have HEL : Hid ((openL L o t).length = L.length + 1 + 1) := open_len L o t
  clear hL hB hE h1 h2 h3 hcn
  generalize openL L o t = M at *
  generalize pcells L (kOf w a) = cs at *
  obtain ⟨n, hn⟩ : ∃ z, L.length = z := ⟨_, rfl⟩
  rw [hn] at h4 DC NIL LEN FIN HEL ⊢
  clear hn
  have g1 : decide ((10 : Int) < (n : Int)) = false := decide_eq_false (by omega)
  have hb2 : (0 + n) * 56 ≤ 140737488355328 := by omega
  have hb4 : (n + 1) * 56 ≤ 140737488355328 := by omega
  have hb6 : (n + 1 + 1) * 56 ≤ 140737488355328 := Nat.le_trans (Nat.mul_le_mul_right 56 (show n + 1 + 1 ≤ 12 by omega)) (by decide)
  have wr1 : IntKind.i64.wrap ((n : Int) + 1) = (n : Int) + 1 := by rw [IntKind.wrap_i64]; omega
  have wr2 : IntKind.i64.wrap ((n : Int) + 1 - 1) = (n : Int) := by rw [IntKind.wrap_i64]; omega
  have wr3 : IntKind.i64.wrap ((n : Int) + 1 - 0) = (n : Int) + 1 := by rw [IntKind.wrap_i64]; omega
  have HB : Hid (0 + n ≤ maxLen ∧ n + 1 ≤ maxLen ∧ n + 1 + 1 ≤ maxLen) := ⟨by unfold maxLen; omega, by unfold maxLen; omega, by unfold maxLen; omega⟩
  go_enter Try.func10, Try.ntmps10
  go_wp2_with fail
  refine Calls.mono DC.out ?_
  rintro e w1 ⟨rfl, hb⟩
  have HB1 : Hid (Below w.heap.size w w1) := hb
  clear hb DC
  go_wp2_with fail
  refine Calls.mono (DB.out _) ?_
  rintro e w2 ⟨rfl, hw2⟩
  have hw3 := hw2.symm
  clear hw2
  subst hw3
  go_wp2_with fail
  refine Calls.mono (DT.out _) ?_
  rintro e w2 ⟨rfl, hw2⟩
  have hw3 := hw2.symm
  clear hw2
  subst hw3
  have BW1 : Hid (∀ o1 : Obj, Below w.heap.size w (w1.alloc o1)) := fun o1 => HB1.out.trans ((one_belowS w1 o1).mono HB1.out.size)
  go_wp2_with (at_builtin; refine wpList_append_all rfl _ _ 22 rfl w1.heap.size 47 i0 (.agg #[.int .i64 0, .int .i64 0, .int .i64 0, .slice none 0 0, .bool false]) 5 56 Try.underlying22 hi0 hz0 hz1 hz2 rfl (by decide) (.slice (some ⟨w1.heap.size, 0, none⟩) 0 0) 0 [] rfl (own_p1 w1) a n c cs NIL.out rfl LEN.out ?c1 ONE.out HB.out.1 hb2 ?c5 ?_)
  case c1 => exact SRC.out _ (BW1.out _)
  case c5 => simp
  intro v2 w3 own3 grow3
  have HB3 : Hid (Below w1.heap.size w1 w3) := (one_belowS w1 _).grown grow3 (by simp) (fun kk hk => by cases hk; exact Nat.le_refl _)
  have OW3 : Hid (w3.ownsRow w1.heap.size 47 5 v2 n cs) := by first | exact own3 | simpa using own3
  clear own3 grow3 BW1
  obtain ⟨va2, vc2, rfl⟩ := row_sliceP OW3.out
  go_wp2_with fail
  go_loopg [13, 42] 2 (fun g s13 s42 wr => ∃ k : Nat, k ≤ 2 ∧ 2 - k ≤ g ∧ s42 = .int .i64 k ∧ Hid (Below w1.heap.size w1 wr) ∧ ((k = 0 ∧ ∃ va vc, s13 = .slice va n vc ∧ Hid (wr.ownsRow w1.heap.size 47 5 s13 n cs)) ∨ (k = 1 ∧ ∃ va vc, s13 = .slice va (n + 1) vc ∧ Hid (wr.ownsRow w1.heap.size 47 5 s13 (n + 1) (cs ++ pcell ⟨o, t, (n : Int) + 1, [], false⟩ (.slice none 0 0)))) ∨ (k = 2 ∧ ∃ va vc, s13 = .slice va (n + 1 + 1) vc ∧ Hid (wr.ownsRow w1.heap.size 47 5 s13 (n + 1 + 1) (cs ++ pcell ⟨o, t, (n : Int) + 1, [], false⟩ (.slice none 0 0) ++ pcell ⟨o, t, (n : Int), [], false⟩ (.slice none 0 0))))))
  case atStart => exact ⟨0, by omega, by omega, rfl, HB3, Or.inl ⟨rfl, va2, vc2, rfl, OW3⟩⟩
  case round =>
    obtain ⟨k, hk, hg, rfl, HBr, hor⟩ := hrel
    clear HB3 OW3
    rcases hor with ⟨rfl, va, vc, rfl, OW⟩ | ⟨rfl, va, vc, rfl, OW⟩ | ⟨rfl, va, vc, rfl, OW⟩
    · have OWA : Hid (∀ o1 : Obj, (wr.alloc o1).ownsRow w1.heap.size 47 5 (.slice va n vc) n cs) := fun o1 => OW.out.alloc o1
      have hsr := HBr.out.size
      go_wp2_with (at_builtin; refine wpList_append_own _ rfl _ _ 22 rfl w1.heap.size 47 i0 (.agg #[.int .i64 0, .int .i64 0, .int .i64 0, .slice none 0 0, .bool false]) 5 56 Try.underlying22 hi0 hz0 hz1 hz2 rfl (by decide) (.slice va n vc) n (cs) rfl (OWA.out _) ⟨wr.heap.size, 0, none⟩ 1 1 (pcell ⟨o, t, (n : Int) + 1, [], false⟩ (.slice none 0 0)) rfl rfl ?d1 (pcell_one _) HB.out.2.1 hb4 ?d5 ?_)
      case d1 => first | exact fun j u h => h | exact newsP (x := ⟨o, t, (n : Int) + 1, [], false⟩) (by go_simp) (by go_simp) (by go_simp) (by go_simp) (by go_simp)
      case d5 => first | omega | (simp; omega)
      intro v4 w4 own4 grow4 _
      have HB4 : Hid (Below w1.heap.size w1 w4) := (HBr.out.trans ((one_belowS wr _).mono HBr.out.size)).grown grow4 (by simp; omega) (fun kk hk => ((OWA.out (.cells #[] 0)).lt kk hk).1)
      have OW4 : Hid (w4.ownsRow w1.heap.size 47 5 v4 (n + 1) (cs ++ pcell ⟨o, t, (n : Int) + 1, [], false⟩ (.slice none 0 0))) := by
        show World.ownsRow _ _ _ _ _ _ _
        first | exact own4 | (rw [List.append_assoc]; exact own4)
      obtain ⟨va4, vc4, rfl⟩ := row_sliceP own4
      clear own4 grow4 OWA OW
      go_wp2_with fail
      go_roundg 1
      case measure => omega
      case rel => exact ⟨1, by omega, by omega, by go_num, HB4, Or.inr (Or.inl ⟨rfl, va4, vc4, rfl, OW4⟩)⟩
    · have OWA : Hid (∀ o1 : Obj, (wr.alloc o1).ownsRow w1.heap.size 47 5 (.slice va (n + 1) vc) (n + 1) (cs ++ pcell ⟨o, t, (n : Int) + 1, [], false⟩ (.slice none 0 0))) := fun o1 => OW.out.alloc o1
      have hsr := HBr.out.size
      go_wp2_with (at_builtin; refine wpList_append_own _ rfl _ _ 22 rfl w1.heap.size 47 i0 (.agg #[.int .i64 0, .int .i64 0, .int .i64 0, .slice none 0 0, .bool false]) 5 56 Try.underlying22 hi0 hz0 hz1 hz2 rfl (by decide) (.slice va (n + 1) vc) (n + 1) (cs ++ pcell ⟨o, t, (n : Int) + 1, [], false⟩ (.slice none 0 0)) rfl (OWA.out _) ⟨wr.heap.size, 0, none⟩ 1 1 (pcell ⟨o, t, (n : Int), [], false⟩ (.slice none 0 0)) rfl rfl ?d1 (pcell_one _) HB.out.2.2 hb6 ?d5 ?_)
      case d1 => first | exact fun j u h => h | exact newsP (x := ⟨o, t, (n : Int), [], false⟩) (by go_simp) (by go_simp) (by go_simp) (by go_simp) (by go_simp)
      case d5 => first | omega | (simp; omega)
      intro v4 w4 own4 grow4 _
      have HB4 : Hid (Below w1.heap.size w1 w4) := (HBr.out.trans ((one_belowS wr _).mono HBr.out.size)).grown grow4 (by simp; omega) (fun kk hk => ((OWA.out (.cells #[] 0)).lt kk hk).1)
      have OW4 : Hid (w4.ownsRow w1.heap.size 47 5 v4 ((n + 1) + 1) (cs ++ pcell ⟨o, t, (n : Int) + 1, [], false⟩ (.slice none 0 0) ++ pcell ⟨o, t, (n : Int), [], false⟩ (.slice none 0 0))) := by
        show World.ownsRow _ _ _ _ _ _ _
        first | exact own4 | (rw [List.append_assoc]; exact own4)
      obtain ⟨va4, vc4, rfl⟩ := row_sliceP own4
      clear own4 grow4 OWA OW
      go_wp2_with fail
      go_roundg 0
      case measure => omega
      case rel => exact ⟨2, by omega, by omega, by go_num, HB4, Or.inr (Or.inr ⟨rfl, va4, vc4, rfl, OW4⟩)⟩
    · obtain ⟨va9, vc9, e9, hp9⟩ := FIN.out wr _ _ (HB1.out.trans (HBr.out.mono HB1.out.size)) OW.out
      rw [HEL.out] at e9
      cases e9
      have HP : Hid (PtsAt wr va M) := hp9
      have HB9 : Hid (Below w.heap.size w wr) := HB1.out.trans (HBr.out.mono HB1.out.size)
      clear hp9 OW
      go_wp2_with fail
      exact bodyPost_ret (v := .tuple #[.slice va (n + 1 + 1) vc, .int .i64 (n : Int), .int .i64 0]) (by simp [results, Try.results10, go_sem]) rfl (by first | exact ⟨va, vc, by rw [HEL.out], HB9.out, HP.out⟩ | exact ⟨va, ⟨vc, by rw [HEL.out]⟩, HB9.out, HP.out⟩)

theorem ropen_any (a : Option Addr) (c : Nat) (L : List Pt) (Fr o t : Int) (w : World) (hN : L.length ≤ 9223372036854775807) (hB : BigP L) (hL : PtsAt w a L) (hcn : a = none → c = 0) :
    Calls Try.prog 10 #[.slice a L.length c, .int .i64 Fr, .int .i64 o, .int .i64 t] w fun e w' => ∃ va vc, e = .returned (.tuple #[.slice va (resO L Fr o t).length vc, .int .i64 (openN L Fr o t), .int .i64 (openE L Fr o t)]) ∧ Below w.heap.size w w' ∧ PtsAt w' va (resO L Fr o t) := by
  unfold resO openN
  by_cases hE : openE L Fr o t = 0
  · rw [if_pos hE, if_pos hE, hE]
    exact ropen_ok a c L Fr o t w hB hL hcn hE
  · rw [if_neg hE, if_neg hE]
    exact (ropen_err a c L Fr o t w hN hB hL hE).mono fun e w' ⟨e1, hb⟩ => ⟨none, 0, e1, hb, pts_none _⟩
end Go.Proofs.Ytgjfmepbphfjoaa
