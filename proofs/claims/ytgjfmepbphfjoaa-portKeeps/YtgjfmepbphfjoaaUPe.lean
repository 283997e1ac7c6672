/-
  Rows of ports of a call's own; the reference's changed.
-/
import Derived.Test.YtgjfmepbphfjoaaUPd
import Derived.Laws.AppendOwn
import Derived.Laws.OwnMore
import Derived.Laws.AppendOwnNone
import Derived.Deep.RegionHeld3
namespace Go.Proofs.Ytgjfmepbphfjoaa
open Go.RowKit Go.ChangeShapes Go.WideShapes
set_option linter.unusedVariables false

set_option maxRecDepth 100000 in
theorem infoPort : (Try.prog.info? 47).map (fun i => (i.zero, i.size, i.bytes)) = some (some (.agg #[.int .i64 0, .int .i64 0, .int .i64 0, .slice none 0 0, .bool false]), 5, 56) := by kernel_rfl

def pcell (x : Pt) (v : Value) : List Value := [.int .i64 x.o, .int .i64 x.t, .int .i64 x.m, v, .bool x.s]
def pcells (L : List Pt) (K : Nat → Value) : List Value := (List.range L.length).flatMap fun i => pcell (pt L i) (K i)
theorem pcell_len (x : Pt) (v : Value) : (pcell x v).length = 5 := rfl
theorem prange_len (L : List Pt) (K : Nat → Value) : ∀ q, ((List.range q).flatMap fun i => pcell (pt L i) (K i)).length = q * 5
  | 0 => rfl
  | q + 1 => by rw [List.range_succ, List.flatMap_append, List.length_append, prange_len L K q]; simp [pcell]; omega
theorem pcells_len (L : List Pt) (K : Nat → Value) : (pcells L K).length = L.length * 5 := prange_len L K _
theorem prange_at (L : List Pt) (K : Nat → Value) {i j : Nat} (hj : j < 5) : ∀ {q : Nat}, i < q → ((List.range q).flatMap fun i => pcell (pt L i) (K i))[i * 5 + j]? = (pcell (pt L i) (K i))[j]?
  | 0, hi => by omega
  | q + 1, hi => by
    rw [List.range_succ, List.flatMap_append]
    by_cases h : i < q
    · rw [List.getElem?_append_left (by rw [prange_len]; omega)]
      exact prange_at L K hj h
    · have e : i = q := by omega
      subst e
      rw [List.getElem?_append_right (by rw [prange_len]; omega), prange_len, show i * 5 + j - i * 5 = j by omega]
      simp
theorem pcells_at {L : List Pt} {K : Nat → Value} {i j : Nat} (hi : i < L.length) (hj : j < 5) : (pcells L K)[i * 5 + j]? = (pcell (pt L i) (K i))[j]? := prange_at L K hj hi
theorem pcells_ext {L : List Pt} {K : Nat → Value} {xs : List Value} (hl : xs.length = L.length * 5) (h : ∀ i j, i < L.length → j < 5 → xs[i * 5 + j]? = (pcell (pt L i) (K i))[j]?) : xs = pcells L K := by
  refine List.ext_getElem? (fun m => ?_)
  by_cases hm : m < L.length * 5
  · have e : m = m / 5 * 5 + m % 5 := by omega
    have h1 := h (m / 5) (m % 5) (by omega) (by omega)
    rw [← e] at h1
    rw [h1, ← pcells_at (L := L) (K := K) (by omega) (by omega), ← e]
  · rw [List.getElem?_eq_none (by omega), List.getElem?_eq_none (by rw [pcells_len]; omega)]
/-- One field of one port is set. -/
theorem pcells_set {L : List Pt} {K : Nat → Value} {k f : Nat} {u v : Value} {x : Pt} (hk : k < L.length) (hf : f < 5) (hx : pcell x v = (pcell (pt L k) (K k)).set f u) :
    (pcells L K).set (k * 5 + f) u = pcells (L.set k x) (fun i => if i = k then v else K i) := by
  refine pcells_ext (by rw [List.length_set, pcells_len, List.length_set]) (fun i j hi hj => ?_)
  rw [List.length_set] at hi
  rw [pt_set hi]
  by_cases e : k = i
  · subst e
    rw [if_pos rfl]
    simp only [if_true]
    rw [hx, List.getElem?_set]
    by_cases e2 : f = j
    · subst e2
      rw [if_pos rfl, if_pos (by rw [pcells_len]; omega), List.getElem?_set_self (by rw [pcell_len]; omega)]
    · rw [if_neg (by omega), pcells_at hi hj, List.getElem?_set_ne e2]
  · rw [if_neg e, List.getElem?_set_ne (by omega), pcells_at hi hj]
    simp only [if_neg (show ¬ i = k from fun h => e h.symm)]
theorem pcells_snoc (L : List Pt) (K : Nat → Value) (x : Pt) (v : Value) : pcells L K ++ pcell x v = pcells (L ++ [x]) (fun i => if i = L.length then v else K i) := by
  refine pcells_ext (by rw [List.length_append, pcells_len, List.length_append]; simp [pcell]; omega) (fun i j hi hj => ?_)
  rw [List.length_append, List.length_singleton] at hi
  by_cases e : i < L.length
  · rw [List.getElem?_append_left (by rw [pcells_len]; omega), pcells_at e hj, pt_left e]
    simp only [if_neg (show ¬ i = L.length by omega)]
  · have e2 : i = L.length := by omega
    subst e2
    rw [List.getElem?_append_right (by rw [pcells_len]; omega), pcells_len, show L.length * 5 + j - L.length * 5 = j by omega, pt_last]
    simp only [if_true]

/-- What came, as a value. -/
def GrsV (w : World) (v : Value) (C : List (List Cl)) : Prop := ∃ ca cc, v = .slice ca C.length cc ∧ GrsC w ca cc C
theorem GrsV.below {w w' : World} {v : Value} {C : List (List Cl)} (h : GrsV w v C) (hb : Below w.heap.size w w') : GrsV w' v C := by
  obtain ⟨ca, cc, e, hg⟩ := h
  exact ⟨ca, cc, e, hg.below hb⟩
theorem GrsV.nil (w : World) : GrsV w (.slice none 0 0) [] := ⟨none, 0, rfl, ⟨fun _ => rfl, Nat.le_refl _, by omega⟩, grs_none w⟩
theorem pcells_one {w : World} {L : List Pt} {K : Nat → Value} (h : ∀ i, i < L.length → GrsV w (K i) (pt L i).cm) : ∀ u ∈ pcells L K, u.oneCell' = true := fun u hu => by
  unfold pcells at hu
  obtain ⟨i, hi, hu⟩ := List.mem_flatMap.1 hu
  obtain ⟨ca, cc, e, _⟩ := h i (List.mem_range.1 hi)
  unfold pcell at hu
  rw [e] at hu
  simp at hu
  rcases hu with rfl | rfl | rfl | rfl | rfl <;> rfl
theorem pts_own {B : Nat} {w : World} {v : Value} {L : List Pt} {K : Nat → Value} (h : w.ownsRow B 47 5 v L.length (pcells L K)) (hg : ∀ i, i < L.length → GrsV w (K i) (pt L i).cm) : ∃ a c, v = .slice a L.length c ∧ PtsAt w a L := by
  have hc := fun g hg => h.cells (g := g) hg
  rcases h.2 with ⟨rfl, h0⟩ | ⟨g, cap, cur, rfl, _⟩
  · exact ⟨none, 0, by rw [h0], fun i hi => by omega⟩
  · refine ⟨some ⟨g, 0, none⟩, cap, rfl, fun i hi => ⟨g, 0, rfl, ?_⟩⟩
    have hx : ∀ j u, j < 5 → (pcell (pt L i) (K i))[j]? = some u → w.cell? ⟨g, 0 + i * 5 + j, none⟩ = some u := fun j u hj hu => by
      have := hc g rfl (i * 5 + j) u (by rw [pcells_at hi hj]; exact hu)
      rw [Nat.zero_add]
      rwa [Addr.add_lit, Nat.zero_add] at this
    obtain ⟨ca, cc, e, hgr⟩ := hg i hi
    exact ⟨hx 0 _ (by omega) rfl, hx 1 _ (by omega) rfl, hx 2 _ (by omega) rfl, ca, cc, hx 3 _ (by omega) (by rw [← e]; rfl), hgr, hx 4 _ (by omega) rfl⟩
/-- The values of what came, of ports in memory. -/
def kOf (w : World) (a : Option Addr) (i : Nat) : Value := match a with
  | some ad => (w.cell? ⟨ad.block, ad.off + i * 5 + 3, none⟩).getD undef
  | none => undef
theorem k_grs {w : World} {a : Option Addr} {L : List Pt} (h : PtsAt w a L) : ∀ i, i < L.length → GrsV w (kOf w a i) (pt L i).cm := fun i hi => by
  obtain ⟨b, o, rfl, _, _, _, ca, cc, c3, hg, _⟩ := h i hi
  exact ⟨ca, cc, by unfold kOf; dsimp only; rw [c3]; rfl, hg⟩
theorem k_src {w : World} {b o : Nat} {L : List Pt} (h : PtsAt w (some ⟨b, o, none⟩) L) : ∀ j u, (pcells L (kOf w (some ⟨b, o, none⟩)))[j]? = some u → w.cell? ((⟨b, o, none⟩ : Addr).add j) = some u := fun j u hj => by
  by_cases hm : j < L.length * 5
  · have e : j = j / 5 * 5 + j % 5 := by omega
    rw [e, pcells_at (by omega) (by omega)] at hj
    obtain ⟨b', o', e', c0, c1, c2, ca, cc, c3, hg, c4⟩ := h (j / 5) (by omega)
    cases e'
    rw [Addr.add_lit, e, ← Nat.add_assoc]
    unfold pcell at hj
    have h5 : j % 5 < 5 := by omega
    match j % 5, h5, hj with
    | 0, _, hj => cases hj; exact c0
    | 1, _, hj => cases hj; exact c1
    | 2, _, hj => cases hj; exact c2
    | 3, _, hj =>
      have hj2 : kOf w (some ⟨b, o, none⟩) (j / 5) = u := by simpa using hj
      unfold kOf at hj2
      dsimp only at hj2
      rw [c3] at hj2
      rw [c3, ← hj2]
      rfl
    | 4, _, hj => cases hj; exact c4
  · rw [List.getElem?_eq_none (by rw [pcells_len]; omega)] at hj
    cases hj
theorem own_p1 (V : World) : (V.alloc (.cells #[] 47)).ownsRow V.heap.size 47 5 (.slice (some ⟨V.heap.size, 0, none⟩) 0 0) 0 [] := ⟨by simp, Or.inr ⟨V.heap.size, 0, #[], rfl, Nat.le_refl _, heap_alloc_new V _, by omega, by unfold maxLen; omega, by simp, by simp⟩⟩

/-- The same, but for blocks from lo on, below hi. -/
structure BoxEq (lo hi : Nat) (w w' : World) : Prop where
  os : w'.os = w.os
  tape : w'.tape = w.tape
  output : w'.output = w.output
  size : w'.heap.size = w.heap.size
  block : ∀ b, ¬ (lo ≤ b ∧ b < hi) → w'.heap[b]? = w.heap[b]?
theorem BoxEq.refl (lo hi : Nat) (w : World) : BoxEq lo hi w w := ⟨rfl, rfl, rfl, rfl, fun _ _ => rfl⟩
theorem row_box {lo hi B t s n : Nat} {w' w'' : World} {v : Value} {xs : List Value} (h : w'.ownsRow B t s v n xs) (hB : hi ≤ B) (hb : BoxEq lo hi w' w'') : w''.ownsRow B t s v n xs := owns_block h (fun k hk => hb.block k (by have := (h.lt k hk).1; omega))
theorem below_box {lo hi : Nat} {w0 w' w'' : World} (h : Below lo w0 w') (hb : BoxEq lo hi w' w'') : Below lo w0 w'' := ⟨hb.os.trans h.os, hb.tape.trans h.tape, hb.output.trans h.output, by rw [hb.size]; exact h.size, fun k hk => (hb.block k (by omega)).trans (h.block k hk)⟩
theorem box_set1 {lo hi b o : Nat} (w : World) (v : Value) (h1 : lo ≤ b) (h2 : b < hi) : BoxEq lo hi w (w.setCell ⟨b, o, none⟩ v) := ⟨rfl, rfl, rfl, by simp, fun k hk => Below.heap_setCell _ _ _ _ (by intro e; exact hk (by rw [e]; exact ⟨h1, h2⟩))⟩

/-- What is answered where something is done to a port: the error, the ports. -/
def thenE (H E : Int) : Int := if H ≠ 0 then H else E

set_option maxRecDepth 100000 in
set_option maxHeartbeats 4000000 in
theorem changed_any (K : Nat) (caps : Array Value) (eg : ∀ args w, (callFunc K args).run Try.prog w = .ok (.enter K args) w) (w0 : World) (a : Option Addr) (c : Nat) (L : List Pt) (Fr k o t : Int) (E2 : Int) (M : List Pt) (Post : World → Prop) (w : World) (hN : L.length ≤ 9223372036854775807) (hB : BigP L) (hL : PtsAt w0 a L) (h0 : Below w0.heap.size w0 w)
    (hdo : heldPE L Fr k o t = 0 → ∀ (W : World) (v : Value), Below w.heap.size w W → W.ownsRow w.heap.size 47 5 v L.length (pcells L (kOf w0 a)) → Calls Try.prog K (#[v] ++ caps) W fun e w' => e = .returned (.int .i64 E2) ∧ Below w0.heap.size W w' ∧ (E2 ≠ 0 → Below W.heap.size W w') ∧ (E2 = 0 → Post w' ∧ ∃ K', ∀ w'', BoxEq w0.heap.size w.heap.size w' w'' → w''.ownsRow w.heap.size 47 5 v M.length (pcells M K') ∧ ∀ i, i < M.length → GrsV w'' (K' i) (pt M i).cm)) :
    Calls Try.prog 30 #[.slice a L.length c, .int .i64 Fr, .int .i64 k, .int .i64 o, .int .i64 t, .func (.func K) #[] caps] w fun e w' => ∃ va vc, e = .returned (.tuple #[.slice va (if thenE (heldPE L Fr k o t) E2 = 0 then M else []).length vc, .int .i64 (thenE (heldPE L Fr k o t) E2)]) ∧ Below w0.heap.size w0 w' ∧ (thenE (heldPE L Fr k o t) E2 ≠ 0 → Below w.heap.size w w') ∧ (thenE (heldPE L Fr k o t) E2 = 0 → Post w') ∧ ∀ w'', BoxEq w0.heap.size w.heap.size w' w'' → PtsAt w'' va (if thenE (heldPE L Fr k o t) E2 = 0 then M else []) := by
  have HL : Hid (PtsAt w a L) := hL.below h0
  have H0 : Hid (Below w0.heap.size w0 w) := h0
  have DC : Hid _ := rpcheck_any a c L Fr w hN hB (hL.below h0)
  have KG : Hid (∀ i, i < L.length → GrsV w0 (kOf w0 a i) (pt L i).cm) := k_grs hL
  by_cases hH : heldPE L Fr k o t = 0
  · obtain ⟨R, q, rfl, hq, ho, ht, hs⟩ := heldP_zero hH
    have hdo2 := hdo hH
    have DO : Hid _ := hdo2
    have hN12 := R.few
    rw [pcheck_zero.2 R] at DC
    rw [hH]
    have eT : thenE 0 E2 = E2 := by unfold thenE; simp
    rw [eT]
    have hq2 : (q : Int) < (L.length : Int) := by omega
    obtain ⟨Q, hQ⟩ : ∃ Q : Int, (L.length : Int) - 1 = Q := ⟨_, rfl⟩
    have hwr : IntKind.i64.wrap ((L.length : Int) - 1) = Q := by rw [IntKind.wrap_i64, ← hQ]; omega
    have DI : Hid (∀ W, _) := fun W => rin_yes (q : Int) 0 Q (by omega) W
    obtain ⟨b, oo, ea, c0, c1, c2, ca, cc, c3, hg3, c4⟩ := HL.out q hq
    rw [ho] at c0
    rw [ht] at c1
    rw [hs] at c4
    obtain ⟨i0, hi0, hz0, hz1, hz2⟩ := info_parts infoPort
    have HEA : Hid (a = some ⟨b, oo, none⟩) := ea
    have SRC : Hid (∀ j u, (pcells L (kOf w0 a))[j]? = some u → w0.cell? ((⟨b, oo, none⟩ : Addr).add j) = some u) := fun j u hj => by
      rw [ea] at hj
      have hL' := hL
      rw [ea] at hL'
      exact k_src hL' j u hj
    have LEN : Hid ((pcells L (kOf w0 a)).length = L.length * 5) := pcells_len _ _
    have ONE : Hid (∀ u ∈ pcells L (kOf w0 a), u.oneCell' = true) := pcells_one (k_grs hL)
    have LTB : Hid (∀ j u, (pcells L (kOf w0 a))[j]? = some u → ∀ W, Below w0.heap.size w0 W → W.cell? ((⟨b, oo, none⟩ : Addr).add j) = some u) := fun j u hj W hW => by
      have h1 := SRC.out j u hj
      exact (hW.cell (World.block_lt_of_cell? _ _ h1)).trans h1
    clear hL hdo hdo2 hH R ho ht hs eT hB hQ h0 hg3 c2 c3
    subst ea
    generalize pcells L (kOf w0 (some ⟨b, oo, none⟩)) = cs at *
    obtain ⟨n, hn⟩ : ∃ n, L.length = n := ⟨_, rfl⟩
    have HN : Hid (L.length = n) := hn
    rw [hn] at hN hN12 hq hq2 hwr DC DO LEN ⊢
    clear hn
    have hb1 : 0 + n ≤ maxLen := by unfold maxLen; omega
    have hb2 : (0 + n) * 56 ≤ 140737488355328 := by omega
    go_enter Try.func30, Try.ntmps30
    go_wp2_with fail
    refine Calls.mono DC.out ?_
    rintro e w1 ⟨rfl, hb⟩
    have HB1 : Hid (Below w.heap.size w w1) := hb
    replace c0 := keepC c0 hb
    replace c1 := keepC c1 hb
    replace c4 := keepC c4 hb
    clear hb DC
    go_wp2_with fail
    refine Calls.mono (DI.out _) ?_
    rintro e w2 ⟨rfl, hw2⟩
    have hw3 := hw2.symm
    clear hw2
    subst hw3
    have BW1 : Hid (Below w0.heap.size w0 w1) := H0.out.trans (HB1.out.mono H0.out.size)
    have CS : Hid (∀ (o1 : Obj) j u, cs[j]? = some u → (w1.alloc o1).cell? ((⟨b, oo, none⟩ : Addr).add j) = some u) := fun o1 j u hj => LTB.out j u hj _ (BW1.out.trans ((one_belowS w1 o1).mono BW1.out.size))
    go_wp2_with (at_builtin; refine wpList_append_own _ rfl _ _ 22 rfl w1.heap.size 47 i0 (.agg #[.int .i64 0, .int .i64 0, .int .i64 0, .slice none 0 0, .bool false]) 5 56 Try.underlying22 hi0 hz0 hz1 hz2 rfl (by decide) (.slice (some ⟨w1.heap.size, 0, none⟩) 0 0) 0 [] rfl (own_p1 w1) ⟨b, oo, none⟩ n c cs rfl LEN.out ?c1 ?c2 hb1 hb2 ?c5 ?_)
    case c1 => exact CS.out _
    case c2 => exact ONE.out
    case c5 => simp
    intro v2 w3 own3 grow3 _
    have HB3 : Hid (Below w.heap.size w w3) := HB1.out.trans (((one_belowS w1 _).grown grow3 (by simp) (fun kk hk => by cases hk; exact Nat.le_refl _)).mono HB1.out.size)
    have OW3 : Hid (w3.ownsRow w.heap.size 47 5 v2 n cs) := by
      have h : w3.ownsRow w1.heap.size 47 5 v2 n cs := by first | exact own3 | simpa using own3
      exact ownsRow_baseL h HB1.out.size
    clear own3 grow3 CS c0 c1 c4
    go_wp2_with fail
    refine Calls.mono (DO.out _ v2 HB3.out OW3.out) ?_
    rintro e w4 ⟨rfl, hb4, hb5, hpo⟩
    have BW3 : Hid (Below w0.heap.size w0 w3) := H0.out.trans (HB3.out.mono H0.out.size)
    have HB4 : Hid (Below w0.heap.size w0 w4) := BW3.out.trans hb4
    by_cases hE : E2 = 0
    · obtain ⟨hP, K', hall⟩ := hpo hE
      obtain ⟨va, vc, hv, _⟩ := pts_own (hall w4 (BoxEq.refl _ _ _)).1 (hall w4 (BoxEq.refl _ _ _)).2
      have hPts : ∀ w'', BoxEq w0.heap.size w.heap.size w4 w'' → PtsAt w'' va M := fun w'' hbx => by
        obtain ⟨va', vc', hv', h'⟩ := pts_own (hall w'' hbx).1 (hall w'' hbx).2
        rw [hv] at hv'
        cases hv'
        exact h'
      subst hv
      have HP : Hid (Post w4) := hP
      have HPT : Hid (∀ w'', BoxEq w0.heap.size w.heap.size w4 w'' → PtsAt w'' va M) := hPts
      have hE0 : E2 = 0 := hE
      clear hP hPts hall hpo hb4 hb5 hE
      obtain ⟨ml, hml⟩ : ∃ z, M.length = z := ⟨_, rfl⟩
      have HML : Hid (M.length = ml) := hml
      rw [hml]
      clear hml
      subst hE0
      go_wp2_with fail
      exact bodyPost_ret (v := .tuple #[.slice va ml vc, .int .i64 0]) (by simp [results, Try.results30, go_sem]) rfl (by first | exact ⟨va, ⟨vc, by rw [HML.out]⟩, HB4.out, HP.out, HPT.out⟩ | exact ⟨va, vc, by rw [if_pos rfl, HML.out], HB4.out, fun h => absurd rfl h, fun _ => HP.out, by rw [if_pos rfl]; exact HPT.out⟩)
    · have HB5 : Hid (Below w.heap.size w w4) := HB3.out.trans ((hb5 hE).mono HB3.out.size)
      have h1 : decide (E2 = 0) = false := decide_eq_false hE
      have h2 : (E2 == 0) = false := by simp [hE]
      clear hb4 hb5 hpo
      go_wp2_with fail
      exact bodyPost_ret (v := .tuple #[.slice none 0 0, .int .i64 E2]) (by simp [results, Try.results30, go_sem]) rfl (by first | exact ⟨none, ⟨0, rfl⟩, HB4.out, HB5.out, fun _ _ => pts_none _⟩ | exact ⟨none, 0, by rw [if_neg hE]; rfl, HB4.out, fun _ => HB5.out, fun h => absurd h hE, by rw [if_neg hE]; exact fun _ _ => pts_none _⟩)
  · have eT : thenE (heldPE L Fr k o t) E2 = heldPE L Fr k o t := by unfold thenE; rw [if_pos hH]
    rw [eT, if_neg hH]
    have FIN : Hid (∀ w', Below w.heap.size w w' → ∃ va vc, Ending.returned (.tuple #[.slice none 0 0, .int .i64 (heldPE L Fr k o t)]) = Ending.returned (.tuple #[.slice va ([] : List Pt).length vc, .int .i64 (heldPE L Fr k o t)]) ∧ Below w0.heap.size w0 w' ∧ (heldPE L Fr k o t ≠ 0 → Below w.heap.size w w') ∧ (heldPE L Fr k o t = 0 → Post w') ∧ ∀ w'', BoxEq w0.heap.size w.heap.size w' w'' → PtsAt w'' va []) := fun w' hb => ⟨none, 0, rfl, h0.trans (hb.mono h0.size), fun _ => hb, fun h => absurd h hH, fun _ _ => pts_none _⟩
    clear hdo hL h0 eT KG H0 hB
    unfold heldPE at FIN hH ⊢
    by_cases h1 : pcheckE L Fr = 0
    · rw [h1] at DC
      have R := pcheck_zero.1 h1
      have hN12 := R.few
      simp only [h1, ne_eq, not_true_eq_false, if_false] at FIN hH ⊢
      obtain ⟨Q, hQ⟩ : ∃ Q : Int, (L.length : Int) - 1 = Q := ⟨_, rfl⟩
      have hwr : IntKind.i64.wrap ((L.length : Int) - 1) = Q := by rw [IntKind.wrap_i64, ← hQ]; omega
      by_cases h2 : 0 ≤ k ∧ k < (L.length : Int)
      · have DI : Hid (∀ W, _) := fun W => rin_yes k 0 Q (by omega) W
        simp only [h2, and_self, not_true_eq_false, if_false] at FIN hH ⊢
        obtain ⟨q, rfl⟩ := Int.eq_ofNat_of_zero_le h2.1
        have hq : q < L.length := by omega
        have hq2 : (q : Int) < (L.length : Int) := by omega
        rw [Int.toNat_natCast] at FIN hH ⊢
        obtain ⟨b, oo, ea, c0, c1, c2, ca, cc, c3, hg3, c4⟩ := HL.out q hq
        subst ea
        clear h1 h2 hQ R hg3 c2 c3
        generalize pt L q = x at *
        obtain ⟨xo, xt, xm, xc, xs⟩ := x
        dsimp only at c0 c1 c4 FIN hH ⊢
        by_cases e1 : xo = o
        · subst e1
          by_cases e2 : xt = t
          · subst e2
            cases xs
            · exact absurd (by simp) hH
            · simp only [not_true_eq_false, or_self, if_false, if_true] at FIN ⊢
              clear hH
              generalize L.length = n at *
              go_enter Try.func30, Try.ntmps30
              go_wp2_with fail
              refine Calls.mono DC.out ?_
              rintro e w1 ⟨rfl, hb⟩
              have HB1 : Hid (Below w.heap.size w w1) := hb
              replace c0 := keepC c0 hb
              replace c1 := keepC c1 hb
              replace c4 := keepC c4 hb
              clear hb DC
              go_wp2_with fail
              refine Calls.mono (DI.out _) ?_
              rintro e w2 ⟨rfl, hw2⟩
              have hw3 := hw2.symm
              clear hw2
              subst hw3
              go_wp2_with fail
              exact bodyPost_ret (v := .tuple #[.slice none 0 0, .int .i64 5]) (by simp [results, Try.results30, go_sem]) rfl (FIN.out _ HB1.out)
          · have y1 : decide (xt = t) = false := decide_eq_false e2
            have y2 : (xt == t) = false := by simp [e2]
            simp only [not_true_eq_false, e2, not_false_eq_true, or_true, if_true] at FIN ⊢
            clear hH
            generalize L.length = n at *
            go_enter Try.func30, Try.ntmps30
            go_wp2_with fail
            refine Calls.mono DC.out ?_
            rintro e w1 ⟨rfl, hb⟩
            have HB1 : Hid (Below w.heap.size w w1) := hb
            replace c0 := keepC c0 hb
            replace c1 := keepC c1 hb
            replace c4 := keepC c4 hb
            clear hb DC
            go_wp2_with fail
            refine Calls.mono (DI.out _) ?_
            rintro e w2 ⟨rfl, hw2⟩
            have hw3 := hw2.symm
            clear hw2
            subst hw3
            go_wp2_with fail
            exact bodyPost_ret (v := .tuple #[.slice none 0 0, .int .i64 7]) (by simp [results, Try.results30, go_sem]) rfl (FIN.out _ HB1.out)
        · have y1 : decide (xo = o) = false := decide_eq_false e1
          have y2 : (xo == o) = false := by simp [e1]
          simp only [e1, not_false_eq_true, true_or, if_true] at FIN ⊢
          clear hH
          generalize L.length = n at *
          go_enter Try.func30, Try.ntmps30
          go_wp2_with fail
          refine Calls.mono DC.out ?_
          rintro e w1 ⟨rfl, hb⟩
          have HB1 : Hid (Below w.heap.size w w1) := hb
          replace c0 := keepC c0 hb
          replace c1 := keepC c1 hb
          replace c4 := keepC c4 hb
          clear hb DC
          go_wp2_with fail
          refine Calls.mono (DI.out _) ?_
          rintro e w2 ⟨rfl, hw2⟩
          have hw3 := hw2.symm
          clear hw2
          subst hw3
          go_wp2_with fail
          exact bodyPost_ret (v := .tuple #[.slice none 0 0, .int .i64 7]) (by simp [results, Try.results30, go_sem]) rfl (FIN.out _ HB1.out)
      · have DI : Hid (∀ W, _) := fun W => rin_no k 0 Q (by omega) W
        simp only [h2, not_false_eq_true, if_true] at FIN ⊢
        clear hH h1 h2 hQ R
        generalize L.length = n at *
        go_enter Try.func30, Try.ntmps30
        go_wp2_with fail
        refine Calls.mono DC.out ?_
        rintro e w1 ⟨rfl, hb⟩
        have HB1 : Hid (Below w.heap.size w w1) := hb
        clear hb DC
        go_wp2_with fail
        refine Calls.mono (DI.out _) ?_
        rintro e w2 ⟨rfl, hw2⟩
        have hw3 := hw2.symm
        clear hw2
        subst hw3
        go_wp2_with fail
        exact bodyPost_ret (v := .tuple #[.slice none 0 0, .int .i64 4]) (by simp [results, Try.results30, go_sem]) rfl (FIN.out _ HB1.out)
    · simp only [h1, ne_eq, not_false_eq_true, if_true] at FIN ⊢
      clear hH
      have y1 : decide (pcheckE L Fr = 0) = false := decide_eq_false h1
      have y2 : (pcheckE L Fr == 0) = false := by simp [h1]
      generalize pcheckE L Fr = E at *
      generalize L.length = n at *
      go_enter Try.func30, Try.ntmps30
      go_wp2_with fail
      refine Calls.mono DC.out ?_
      rintro e w1 ⟨rfl, hb⟩
      have HB1 : Hid (Below w.heap.size w w1) := hb
      clear hb DC
      go_wp2_with fail
      exact bodyPost_ret (v := .tuple #[.slice none 0 0, .int .i64 E]) (by simp [results, Try.results30, go_sem]) rfl (FIN.out _ HB1.out)
end Go.Proofs.Ytgjfmepbphfjoaa
