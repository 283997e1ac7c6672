/-
  TreeMoves: the walk where a node is put.
-/
import Derived.Test.YtjlapfgghljidaaUMaMb
import Derived.Test.YtjlapfgghljidaaUWc
import Derived.Test.YtjlapfgghljidaaUSmBoSpLay
import Derived.BigQuiet
import Derived.Deep.RegionHeld3
namespace Go.Proofs.Ytjlapfgghljidaa
open Go.RowKit

/-- The law's variables. -/
def MvL (w w1 w3 : World) (a : Option Addr) (n c g : Nat) (pa ch : Nat) (sa : Option Addr) (bl cap : Nat) (X : World) : Prop :=
  X.cell? ⟨w.heap.size, 0, none⟩ = some (.slice a n c) ∧ X.cell? ⟨w.heap.size + 1, 0, none⟩ = some (.int .i64 (pa : Int)) ∧ X.cell? ⟨w.heap.size + 1 + 1, 0, none⟩ = some (.int .i64 (ch : Int)) ∧ X.cell? ⟨w1.heap.size, 0, none⟩ = some (.slice (some ⟨g, 0, none⟩) n n) ∧ X.cell? ⟨w3.heap.size, 0, none⟩ = some (.slice sa bl cap)

theorem MvL.below {w w1 w3 X Y : World} {a : Option Addr} {n c g pa ch : Nat} {sa : Option Addr} {bl cap : Nat} (h : MvL w w1 w3 a n c g pa ch sa bl cap X) (hb : Below X.heap.size X Y) : MvL w w1 w3 a n c g pa ch sa bl cap Y := by
  obtain ⟨h0, h1, h2, h3, h4⟩ := h
  exact ⟨(hb.cell (World.block_lt_of_cell? _ _ h0)).trans h0, (hb.cell (World.block_lt_of_cell? _ _ h1)).trans h1, (hb.cell (World.block_lt_of_cell? _ _ h2)).trans h2, (hb.cell (World.block_lt_of_cell? _ _ h3)).trans h3, (hb.cell (World.block_lt_of_cell? _ _ h4)).trans h4⟩

set_option maxRecDepth 100000 in
set_option maxHeartbeats 16000000 in
theorem moves_ok (G : GrownOk) (a : Option Addr) (c : Nat) (S A : List Nd) (pa ch : Nat) (pu cu : Int) (ha : Option Addr) (m hc : Nat) (w : World) (hS : NdsAt w a S)
    (hI : ∀ W, Below w.heap.size w W → Calls Try.prog 25 #[.agg #[.slice a S.length c], .agg #[.int .i64 (pa : Int), .int .i64 pu], .agg #[.int .i64 (ch : Int), .int .i64 cu], .slice ha m hc] W fun e w' => ∃ g, e = .returned (.tuple #[.agg #[.slice (some ⟨g, 0, none⟩) S.length S.length], .int .i64 0]) ∧ Below W.heap.size W w' ∧ NdsAt w' (some ⟨g, 0, none⟩) A)
    (mv : Moved S A pa ch) (hcn : (nd S ch).n = cu) (hrt : ∀ k, k < S.length → k ≠ ch → (nd S k).p < 0 → (nd A k).p < 0) :
    Calls Try.prog 8 #[.agg #[.slice a S.length c], .agg #[.int .i64 (pa : Int), .int .i64 pu], .agg #[.int .i64 (ch : Int), .int .i64 cu], .slice ha m hc] w fun e w' => e = .returned (.bool true) ∧ Below w.heap.size w w' := by
  have wf := mv.wfS
  have hN := wf.small
  have OL : ∀ (T : List Nd) (k : Nat), WF T → k < T.length → 1 ≤ (orderS T k).length ∧ (orderS T k).length ≤ 24 := fun T k h hk => ⟨by obtain ⟨r, hr, _⟩ := par_root h hk (h.deep_all hk); show 1 ≤ (orderF T T.length k).length; rw [hr]; simp, Nat.le_trans (order_le h hk) h.small⟩
  have DO : ∀ (T : List Nd) (b : Option Addr) (d k : Nat) (W : World), WF T → k < T.length → (nd T k).u = true → NdsAt W b T → Calls Try.prog 27 #[.agg #[.slice b T.length d], .agg #[.int .i64 (k : Int), .int .i64 (nd T k).n]] W fun e w' => ∃ nb no cap, e = .returned (.tuple #[.slice (some ⟨nb, no, none⟩) (orderS T k).length cap, .int .i64 0]) ∧ Below W.heap.size W w' ∧ IntsAt w' (some ⟨nb, no, none⟩) (orderS T k) ∧ (orderS T k).length ≤ cap ∧ cap ≤ 9223372036854775807 := fun T b d k W h hk hku hW => by
    have hl := (OL T k h hk)
    refine Calls.mono (order_ok b d T k T.length (nd T k).n W (by have := h.small; omega) h.big hW (tcheck_of hk hku rfl h) hk (h.deep_all hk) (by have := hl.2; unfold orderS at this; omega)) ?_
    rintro e w' ⟨sa, cap, rfl, hb, hi, hc1, hc2⟩
    obtain ⟨nb, no, e0, _⟩ := hi 0 (by have := hl.1; unfold orderS at this; omega)
    subst e0
    exact ⟨nb, no, cap, rfl, hb, hi, hc1, hc2⟩
  have FACTS : Hid (∀ k, k < S.length → (nd S k).u = true → (nd S k).p < 0 → k ≠ ch → _) := fun k h1 h2 h3 h4 => mv.facts h1 h2 h3 (hrt k h1 h4 h3) h4
  have DC : Hid (∀ W, NdsAt W a S → Calls _ _ _ _ _) := fun W hW => DO S a c ch W wf mv.cl mv.cu hW
  have DS : Hid (∀ k W, k < S.length → (nd S k).u = true → NdsAt W a S → Calls _ _ _ _ _) := fun k W h1 h2 hW => DO S a c k W wf h1 h2 hW
  have DA : Hid (∀ g k W, k < S.length → (nd S k).u = true → NdsAt W (some ⟨g, 0, none⟩) A → Calls Try.prog 27 #[.agg #[.slice (some ⟨g, 0, none⟩) S.length S.length], .agg #[.int .i64 (k : Int), .int .i64 (nd S k).n]] W fun e w' => ∃ nb no cap, e = .returned (.tuple #[.slice (some ⟨nb, no, none⟩) (orderS A k).length cap, .int .i64 0]) ∧ Below W.heap.size W w' ∧ IntsAt w' (some ⟨nb, no, none⟩) (orderS A k) ∧ (orderS A k).length ≤ cap ∧ cap ≤ 9223372036854775807) := fun g k W h1 h2 hW => by
    have h := DO A (some ⟨g, 0, none⟩) S.length k W mv.wfA (by rw [mv.len]; exact h1) (by rw [(mv.un k h1).1]; exact h2) hW
    rw [(mv.un k h1).2, mv.len] at h
    exact h
  have LB : Hid (1 ≤ (orderS S ch).length ∧ (orderS S ch).length ≤ 24) := OL S ch wf mv.cl
  have LS : Hid (∀ k, k < S.length → 1 ≤ (orderS S k).length ∧ (orderS S k).length ≤ 24) := fun k hk => OL S k wf hk
  have LA : Hid (∀ k, k < S.length → 1 ≤ (orderS A k).length ∧ (orderS A k).length ≤ 24) := fun k hk => OL A k mv.wfA (by rw [mv.len]; exact hk)
  have HS : Hid (NdsAt w a S) := hS
  have HI : Hid _ := hI
  have HG : Hid GrownOk := G
  rw [hcn] at DC
  clear hS hI G DO OL mv hcn hrt wf
  obtain ⟨BL, hBL⟩ : ∃ l, orderS S ch = l := ⟨_, rfl⟩
  rw [hBL] at DC LB FACTS
  clear hBL
  obtain ⟨n, hn⟩ : ∃ n, S.length = n := ⟨_, rfl⟩
  have HN : Hid (S.length = n) := hn
  rw [hn] at DC DS DA HI FACTS LS LA hN ⊢
  clear hn
  obtain ⟨bl, hbl⟩ : ∃ bl, BL.length = bl := ⟨_, rfl⟩
  have HBL : Hid (BL.length = bl) := hbl
  rw [hbl] at DC LB
  obtain ⟨hbl1, hbl2⟩ := LB.out
  clear hbl LB
  go_enter Try.func8, Try.ntmps8
  go_wp2_with fail
  refine Calls.mono (HI.out _ (three_below _ _ _ _)) ?_
  rintro e w1 ⟨g, rfl, hb1, hA1⟩
  simp only [World.size_alloc] at hb1
  have hs1 := hb1.size
  simp only [World.size_alloc] at hs1
  have c0 : w1.cell? ⟨w.heap.size, 0, none⟩ = some (.slice a n c) := (hb1.cell (by simp; omega)).trans (by go_simp)
  have c1 : w1.cell? ⟨w.heap.size + 1, 0, none⟩ = some (.int .i64 (pa : Int)) := (hb1.cell (by simp)).trans (by go_simp)
  have c2 : w1.cell? ⟨w.heap.size + 1 + 1, 0, none⟩ = some (.int .i64 (ch : Int)) := (hb1.cell (by simp)).trans (by go_simp)
  have c3 : w1.cell? ⟨w.heap.size + 1 + 1, 1, none⟩ = some (.int .i64 cu) := (hb1.cell (by simp)).trans (by go_simp)
  have HB1 : Hid (Below w.heap.size w w1) := (three_below _ _ _ _).trans (hb1.mono (by omega))
  have HA1 : Hid (NdsAt w1 (some ⟨g, 0, none⟩) A) := hA1
  clear hb1 hA1 HI
  go_wp2_with fail
  refine Calls.mono (HG.out _) ?_
  rintro e w2 ⟨rfl, hb2⟩
  simp only [World.size_alloc] at hb2
  have hs2 := hb2.size
  simp only [World.size_alloc] at hs2
  have hb12 : Below w1.heap.size w1 w2 := ((Below.refl _ _).alloc (Nat.le_refl _) _).trans (hb2.mono (by omega))
  have d0 := (hb12.cell (p := ⟨w.heap.size, 0, none⟩) (by show w.heap.size < _; omega)).trans c0
  have d1 := (hb12.cell (p := ⟨w.heap.size + 1, 0, none⟩) (by show w.heap.size + 1 < _; omega)).trans c1
  have d2 := (hb12.cell (p := ⟨w.heap.size + 1 + 1, 0, none⟩) (by show w.heap.size + 1 + 1 < _; omega)).trans c2
  have d3 := (hb12.cell (p := ⟨w.heap.size + 1 + 1, 1, none⟩) (by show w.heap.size + 1 + 1 < _; omega)).trans c3
  have d4 : w2.cell? ⟨w1.heap.size, 0, none⟩ = some (.slice (some ⟨g, 0, none⟩) n n) := (hb2.cell (by simp)).trans (by go_simp)
  have HB2 : Hid (Below w.heap.size w w2) := HB1.out.trans (hb12.mono HB1.out.size)
  have HA2 : Hid (NdsAt w2 (some ⟨g, 0, none⟩) A) := HA1.out.below hb12
  clear hb2 hb12 c0 c1 c2 c3 HA1
  go_wp2_with fail
  refine Calls.mono (DC.out _ (HS.out.below HB2.out)) ?_
  rintro e w3 ⟨sb, so, cap, rfl, hb3, hI3, hc1, hc2⟩
  have hs3 := hb3.size
  have X3 : Hid (Below w2.heap.size w2 (w3.alloc (.cells #[.slice (some ⟨sb, so, none⟩) bl cap] 33))) := hb3.alloc hs3 _
  have q0 : w.heap.size < w3.heap.size := by omega
  have e0 := (hb3.cell (p := ⟨w.heap.size, 0, none⟩) (by show w.heap.size < _; omega)).trans d0
  have HL0 : Hid (MvL w w1 w3 a n c g pa ch (some ⟨sb, so, none⟩) bl cap (w3.alloc (.cells #[.slice (some ⟨sb, so, none⟩) bl cap] 33))) :=
    ⟨(X3.out.cell (p := ⟨w.heap.size, 0, none⟩) (by show w.heap.size < _; omega)).trans d0, (X3.out.cell (p := ⟨w.heap.size + 1, 0, none⟩) (by show w.heap.size + 1 < _; omega)).trans d1, (X3.out.cell (p := ⟨w.heap.size + 1 + 1, 0, none⟩) (by show w.heap.size + 1 + 1 < _; omega)).trans d2, (X3.out.cell (p := ⟨w1.heap.size, 0, none⟩) (World.block_lt_of_cell? _ _ d4)).trans d4, by go_simp⟩
  have HI0 : Hid (IntsAt (w3.alloc (.cells #[.slice (some ⟨sb, so, none⟩) bl cap] 33)) (some ⟨sb, so, none⟩) BL) := hI3.below ((Below.refl _ _).alloc (Nat.le_refl _) _)
  have HB0 : Hid (Below w.heap.size w (w3.alloc (.cells #[.slice (some ⟨sb, so, none⟩) bl cap] 33))) := HB2.out.trans (X3.out.mono HB2.out.size)
  have HA0 : Hid (NdsAt (w3.alloc (.cells #[.slice (some ⟨sb, so, none⟩) bl cap] 33)) (some ⟨g, 0, none⟩) A) := HA2.out.below X3.out
  clear hb3 hI3 d0 d1 d2 d3 d4 X3 HA2 DC
  go_wp2_with fail
  obtain ⟨W4, hW4⟩ : ∃ W4, W4 = w3.alloc (.cells #[.slice (some ⟨sb, so, none⟩) bl cap] 33) := ⟨_, rfl⟩
  rw [← hW4]
  rw [← hW4] at HL0 HI0 HB0 HA0
  clear hW4 e0
  go_loopg [48] n (fun g1 s48 wr => ∃ j : Nat, j ≤ n ∧ n - j ≤ g1 ∧ s48 = .int .i64 j ∧ Hid (Below W4.heap.size W4 wr))
  case atStart => exact ⟨0, by omega, by omega, rfl, Below.refl _ _⟩
  case round =>
    obtain ⟨j, hj, hg1, rfl, HR⟩ := hrel
    have HB : Hid (Below w.heap.size w wr) := HB0.out.trans (HR.out.mono HB0.out.size)
    have hwr := HR.out.size
    obtain ⟨l0, l1, l2, l3, l4⟩ := MvL.below HL0.out HR.out
    by_cases hjl : j < n
    · have hjl2 : (j : Int) < (n : Int) := by omega
      obtain ⟨jb, jo, ea, k0, k1, k2, k3, k4, ⟨ka, kc, k5, _⟩, k6, k7⟩ := (HS.out.below HB.out) j (by rw [HN.out]; exact hjl)
      subst ea
      have hjb := World.block_lt_of_cell? _ _ k0
      have q1 := World.block_lt_of_cell? _ _ l0
      have q2 := World.block_lt_of_cell? _ _ l2
      by_cases hskip : (nd S j).u = false ∨ 0 ≤ (nd S j).p ∨ j = ch
      · have STEP : Hid (∀ o, ∃ j' : Nat, j' ≤ n ∧ n - j' ≤ n - (j + 1) ∧ Value.int .i64 ((j : Int) + 1) = .int .i64 (j' : Int) ∧ Hid (Below W4.heap.size W4 (wr.alloc o))) := fun o => ⟨j + 1, by omega, by omega, by simp, HR.out.alloc HR.out.size _⟩
        generalize nd S j = x at *
        obtain ⟨xu, xn, xt, xm, xp, xks, xh, xc⟩ := x
        dsimp only at *
        generalize xks.length = xl at *
        rcases hskip with rfl | hskip | rfl
        · go_wp2
          go_roundg (n - (j + 1))
          case measure => omega
          case rel => exact STEP.out _
        · have hpd : decide ((0 : Int) ≤ xp) = true := decide_eq_true hskip
          cases xu
          all_goals
            go_wp2
            go_roundg (n - (j + 1))
            case measure => omega
            case rel => exact STEP.out _
        · by_cases hpp : (0 : Int) ≤ xp
          · have hpd : decide ((0 : Int) ≤ xp) = true := decide_eq_true hpp
            cases xu
            all_goals
              go_wp2
              go_roundg (n - (j + 1))
              case measure => omega
              case rel => exact STEP.out _
          · have hpd : decide ((0 : Int) ≤ xp) = false := decide_eq_false hpp
            cases xu
            all_goals
              go_wp2
              go_roundg (n - (j + 1))
              case measure => omega
              case rel => exact STEP.out _
      · have hu : (nd S j).u = true := by
          cases h : (nd S j).u with
          | true => rfl
          | false => exact absurd (Or.inl h) hskip
        have hp : (nd S j).p < 0 := by
          by_cases h : 0 ≤ (nd S j).p
          · exact absurd (Or.inr (Or.inl h)) hskip
          · omega
        have hne : j ≠ ch := fun h => hskip (Or.inr (Or.inr h))
        obtain ⟨fw, fh, fb⟩ := FACTS.out j hjl hu hp hne
        have hpd : decide ((0 : Int) ≤ (nd S j).p) = false := decide_eq_false (by omega)
        have hjc : ((j : Int) == (ch : Int)) = false := by simp; omega
        have D5 : Hid (∀ W, NdsAt W (some ⟨jb, jo, none⟩) S → Calls _ _ _ _ _) := fun W hW => DS.out j W hjl hu hW
        have D6 : Hid (∀ W, NdsAt W (some ⟨g, 0, none⟩) A → Calls _ _ _ _ _) := fun W hW => DA.out g j W hjl hu hW
        obtain ⟨ls1, ls2⟩ := LS.out j hjl
        obtain ⟨la1, la2⟩ := LA.out j hjl
        obtain ⟨WL, hWL⟩ : ∃ l, orderS S j = l := ⟨_, rfl⟩
        obtain ⟨NL, hNL⟩ : ∃ l, orderS A j = l := ⟨_, rfl⟩
        rw [hWL] at D5 fw ls1 ls2
        rw [hNL] at D6 fw fh fb la1 la2
        clear hWL hNL hskip
        obtain ⟨x, hx⟩ : ∃ x, nd S j = x := ⟨_, rfl⟩
        rw [hx] at k0 k1 k2 k3 k4 k5 k6 k7 hu hp hpd D5 D6
        clear hx
        obtain ⟨xu, xn, xt, xm, xp, xks, xh, xc⟩ := x
        dsimp only at *
        subst hu
        generalize xks.length = xl at *
        obtain ⟨wl, hwl⟩ : ∃ l, WL.length = l := ⟨_, rfl⟩
        obtain ⟨nl, hnl⟩ : ∃ l, NL.length = l := ⟨_, rfl⟩
        have HWL : Hid (WL.length = wl) := hwl
        have HNL : Hid (NL.length = nl) := hnl
        rw [hwl] at D5 ls1 ls2
        rw [hnl] at D6 la1 la2
        clear hwl hnl
        have FW : Hid _ := fw
        have FB : Hid _ := fb
        clear fw fb
        have DCt : Hid (∀ b o d (y : Int) W, IntsAt W (some ⟨b, o, none⟩) NL → Calls Try.prog 35 #[.slice (some ⟨b, o, none⟩) nl d, .int .i64 y] W fun e w' => e = .returned (.bool (decide (y ∈ NL))) ∧ w' = W) := fun b o d y W hW => by
          have h := contains_any (some ⟨b, o, none⟩) d NL y W (by rw [HNL.out]; omega) hW
          rw [HNL.out] at h
          exact h
        have DIx : Hid (∀ b o d W, IntsAt W (some ⟨b, o, none⟩) NL → Calls Try.prog 33 #[.slice (some ⟨b, o, none⟩) nl d, .int .i64 (ch : Int)] W fun e w' => e = .returned (.int .i64 (idx NL ch)) ∧ w' = W) := fun b o d W hW => by
          have h := index_any (some ⟨b, o, none⟩) d NL (ch : Int) W (by rw [HNL.out]; omega) hW
          rw [HNL.out] at h
          exact h
        have DCl : Hid (∀ (L : List Int) l b o d W, L.length = l → 1 ≤ l → l ≤ 24 → IntsAt W (some ⟨b, o, none⟩) L → Calls Try.prog 37 #[.slice (some ⟨b, o, none⟩) l d] W fun e w' => ∃ g cap, e = .returned (.slice (some ⟨g, 0, none⟩) l cap) ∧ Below W.heap.size W w' ∧ w'.ownsRow W.heap.size 3 1 (.slice (some ⟨g, 0, none⟩) l cap) l (L.map (Value.int .i64))) := fun L l b o d W hL h1 h2 hW => by
          subst hL
          exact cloneInts_any b o d L W ⟨h1, by omega⟩ hW
        have DDl : Hid (∀ (L : List Int) l g cap W B, L.length = l → Below W4.heap.size W4 W → W4.heap.size ≤ B → W.ownsRow B 3 1 (.slice (some ⟨g, 0, none⟩) l cap) l (L.map (Value.int .i64)) → Calls Try.prog 36 #[.slice (some ⟨g, 0, none⟩) l cap, .func (.func 34) #[] #[.pointer (some ⟨w3.heap.size, 0, none⟩)]] W fun e w' => e = .returned (.slice (some ⟨g, 0, none⟩) (flt (fun y => decide (y ∈ BL)) L).length cap) ∧ Off (fun b => b = g) W w' ∧ IntsAt w' (some ⟨g, 0, none⟩) (flt (fun y => decide (y ∈ BL)) L)) := fun L l g cap W B hL hb hB hown => by
          subst hL
          exact del_any W4 w3.heap.size (some ⟨sb, so, none⟩) _ BL (by rw [HBL.out]; omega) (by rw [HBL.out]; exact HL0.out.2.2.2.2) HI0.out g cap L W hb B hB hown
        go_wp2_with fail
        refine Calls.mono (D5.out _ (HS.out.below ((HB.out.alloc HB.out.size _).alloc (by simp; have := HB.out.size; omega) _))) ?_
        rintro e w5 ⟨b5, o5, cp5, rfl, hb5, hI5, _, _⟩
        simp only [World.size_alloc] at hb5
        have hs5 := hb5.size
        simp only [World.size_alloc] at hs5
        have h50 : w5.cell? ⟨wr.heap.size + 1, 0, none⟩ = some (.int .i64 (j : Int)) := (hb5.cell (by simp)).trans (by go_simp)
        have h51 : w5.cell? ⟨wr.heap.size + 1, 1, none⟩ = some (.int .i64 xn) := (hb5.cell (by simp)).trans (by go_simp)
        have H5 : Hid (Below W4.heap.size W4 w5) := ((HR.out.alloc HR.out.size _).alloc (by simp; omega) _).trans (hb5.mono (by omega))
        have HI5 : Hid (IntsAt w5 (some ⟨b5, o5, none⟩) WL) := hI5
        have q5 : wr.heap.size + 1 < w5.heap.size := by omega
        clear hb5 hI5 k0 k1 k2 k3 k4 k5 k6 k7
        clear l0 l1 l2 l3 l4
        obtain ⟨l0, l1, l2, l3, l4⟩ := MvL.below HL0.out H5.out
        go_wp2_with fail
        refine Calls.mono (D6.out _ (HA0.out.below H5.out)) ?_
        rintro e w6 ⟨b6, o6, cp6, rfl, hb6, hI6, hcp1, hcp2⟩
        have hs6 := hb6.size
        have H6 : Hid (Below W4.heap.size W4 w6) := H5.out.trans (hb6.mono H5.out.size)
        have HI6 : Hid (IntsAt w6 (some ⟨b6, o6, none⟩) NL) := hI6
        have HW6 : Hid (IntsAt w6 (some ⟨b5, o5, none⟩) WL) := HI5.out.below hb6
        clear hb6 hI6 h50 h51
        clear l0 l1 l2 l3 l4
        obtain ⟨l0, l1, l2, l3, l4⟩ := MvL.below HL0.out H6.out
        go_wp2_with fail
        refine Calls.mono (DCt.out b6 o6 cp6 (ch : Int) _ HI6.out) ?_
        rintro e w' ⟨rfl, hw'⟩
        have h2 := hw'.symm
        clear hw'
        subst h2
        obtain ⟨has, hhas⟩ : ∃ b, decide ((ch : Int) ∈ NL) = b := ⟨_, rfl⟩
        rw [hhas]
        rw [hhas] at fh
        have HH : Hid (has = decide ((pa : Int) ∈ NL)) := fh
        have HHAS : Hid (decide ((ch : Int) ∈ NL) = has) := hhas
        clear fh hhas
        go_wp2_with fail
        refine Calls.mono (DCl.out WL wl b5 o5 cp5 _ HWL.out ls1 ls2 HW6.out) ?_
        rintro e w7 ⟨g7, cp7, rfl, hb7, hown7⟩
        have hs7 := hb7.size
        have H7 : Hid (Below W4.heap.size W4 w7) := H6.out.trans (hb7.mono H6.out.size)
        have g7b := (hown7.lt g7 rfl)
        have HO7 : Hid _ := hown7
        go_wp2_with fail
        refine Calls.mono (DDl.out WL wl g7 cp7 _ _ HWL.out H7.out (Nat.le_trans H6.out.size (Nat.le_refl _)) HO7.out) ?_
        rintro e w8 ⟨rfl, ho8, hI8⟩
        have hb68 : Below w6.heap.size w6 w8 := hb7.trans (ho8.below hs7 (fun k hk => by have := g7b.1; omega))
        have H8 : Hid (Below W4.heap.size W4 w8) := H6.out.trans (hb68.mono H6.out.size)
        have HF8 : Hid (IntsAt w8 (some ⟨g7, 0, none⟩) (flt (fun y => decide (y ∈ BL)) WL)) := hI8
        have HN8 : Hid (IntsAt w8 (some ⟨b6, o6, none⟩) NL) := HI6.out.below hb68
        have hs8 := hb68.size
        clear hb7 hown7 HO7 ho8 hI8 hb68
        go_wp2_with fail
        refine Calls.mono (DCl.out NL nl b6 o6 cp6 _ HNL.out la1 la2 HN8.out) ?_
        rintro e w9 ⟨g9, cp9, rfl, hb9, hown9⟩
        have hs9 := hb9.size
        have H9 : Hid (Below W4.heap.size W4 w9) := H8.out.trans (hb9.mono H8.out.size)
        have g9b := (hown9.lt g9 rfl)
        have HO9 : Hid _ := hown9
        go_wp2_with fail
        refine Calls.mono (DDl.out NL nl g9 cp9 _ _ HNL.out H9.out H8.out.size HO9.out) ?_
        rintro e w10 ⟨rfl, ho10, hI10⟩
        have hb810 : Below w8.heap.size w8 w10 := hb9.trans (ho10.below hs9 (fun k hk => by have := g9b.1; omega))
        have H10 : Hid (Below W4.heap.size W4 w10) := H8.out.trans (hb810.mono H8.out.size)
        have HF10 : Hid (IntsAt w10 (some ⟨g7, 0, none⟩) (flt (fun y => decide (y ∈ BL)) WL)) := HF8.out.below hb810
        have HG10 : Hid (IntsAt w10 (some ⟨g9, 0, none⟩) (flt (fun y => decide (y ∈ BL)) NL)) := hI10
        have HN10 : Hid (IntsAt w10 (some ⟨b6, o6, none⟩) NL) := HN8.out.below hb810
        clear hb9 hown9 HO9 ho10 hI10 hb810
        have deq := equal_any (some ⟨g7, 0, none⟩) (some ⟨g9, 0, none⟩) cp7 cp9 _ _ w10 (Nat.le_trans (flt_le _ WL) (by rw [HWL.out]; omega)) HF10.out HG10.out
        rw [decide_eq_true FW.out] at deq
        have DEQ : Hid _ := deq
        clear deq
        clear l0 l1 l2 l3 l4
        obtain ⟨l0, l1, l2, l3, l4⟩ := MvL.below HL0.out H10.out
        go_wp2_with fail
        refine Calls.mono DEQ.out ?_
        rintro e w11 ⟨rfl, hb11⟩
        have H11 : Hid (Below W4.heap.size W4 w11) := H10.out.trans (hb11.mono H10.out.size)
        have HN11 : Hid (IntsAt w11 (some ⟨b6, o6, none⟩) NL) := HN10.out.below hb11
        have HBL11 : Hid (IntsAt w11 (some ⟨sb, so, none⟩) BL) := HI0.out.below H11.out
        clear hb11 DEQ
        clear l0 l1 l2 l3 l4
        obtain ⟨l0, l1, l2, l3, l4⟩ := MvL.below HL0.out H11.out
        go_wp2_with fail
        refine Calls.mono (DCt.out b6 o6 cp6 (pa : Int) _ HN11.out) ?_
        rintro e w' ⟨rfl, hw'⟩
        have h2 := hw'.symm
        clear hw'
        subst h2
        rw [← HH.out]
        cases has with
        | false =>
          go_wp2_with (go_at_call 33; refine (DIx.out b6 o6 cp6 _ HN11.out).mono ?_; rintro e w' ⟨rfl, hw'⟩; have h2 := hw'.symm; clear hw'; subst h2)
          go_big_quiet (fail)
          go_wp2
          go_roundg (n - (j + 1))
          case measure => omega
          case rel => first | exact ⟨j + 1, by omega, by omega, by go_num, H11⟩ | exact ⟨j + 1, by omega, by omega, by go_num, Below.drewNs H11.out _⟩
        | true =>
          obtain ⟨x1, x2, hsplit, hidx⟩ := FB.out (of_decide_eq_true HHAS.out)
          have DI2 : Hid (∀ W, IntsAt W (some ⟨b6, o6, none⟩) NL → Calls Try.prog 33 #[.slice (some ⟨b6, o6, none⟩) nl cp6, .int .i64 (ch : Int)] W fun e w' => e = .returned (.int .i64 (x1.length : Int)) ∧ w' = W) := fun W hW => by
            have h := DIx.out b6 o6 cp6 W hW
            rw [hidx] at h
            exact h
          have hlen : x1.length + bl ≤ nl := by
            have := congrArg List.length hsplit
            rw [HNL.out] at this
            simp only [List.length_append] at this
            rw [HBL.out] at this
            omega
          have HSUB : Hid (IntsAt w11 (some ⟨b6, o6 + x1.length, none⟩) BL) := fun i hi => by
            have hi2 : i < bl := by rw [← HBL.out]; exact hi
            obtain ⟨bb, oo, e0, hc0⟩ := HN11.out (x1.length + i) (by rw [HNL.out]; omega)
            cases e0
            refine ⟨b6, o6 + x1.length, rfl, ?_⟩
            rw [show o6 + x1.length + i = o6 + (x1.length + i) by omega, hc0]
            congr 2
            rw [hsplit, getD_elem _ _ (by simp only [List.length_append]; omega), getD_elem _ _ hi, List.getElem_append_left (by simp only [List.length_append]; omega), List.getElem_append_right (by omega)]
            congr 1
            omega
          obtain ⟨I, hI⟩ : ∃ I, x1.length = I := ⟨_, rfl⟩
          rw [hI] at DI2 hlen HSUB
          clear hI hsplit hidx
          have hsl := sub_slice b6 o6 nl cp6 I bl hlen (by omega) hbl1 hcp2
          have DQ : Hid (∀ W, Below w11.heap.size w11 W → Calls Try.prog 32 #[.slice (some ⟨b6, o6 + I, none⟩) bl (cp6 - I), .slice (some ⟨sb, so, none⟩) bl cap] W fun e w' => e = .returned (.bool true) ∧ Below W.heap.size W w') := fun W hW => by
            have dq := equal_any (some ⟨b6, o6 + I, none⟩) (some ⟨sb, so, none⟩) (cp6 - I) cap BL BL W (by rw [HBL.out]; omega) (HSUB.out.below hW) (HBL11.out.below hW)
            rw [decide_eq_true rfl, HBL.out] at dq
            exact dq
          have hwr : IntKind.i64.wrap ((I : Int) + (bl : Int)) = (I : Int) + (bl : Int) := by rw [IntKind.wrap_i64]; omega
          have q11 := World.block_lt_of_cell? _ _ l4
          have D11 : Hid (Below w11.heap.size w11 w11.drew) := (Below.refl _ _).drew
          go_wp2_with (go_at_call 33; refine (DI2.out _ HN11.out).mono ?_; rintro e w' ⟨rfl, hw'⟩; have h2 := hw'.symm; clear hw'; subst h2)
          go_region_held3 (fun w'' => w''.cell? ⟨w3.heap.size, 0, none⟩ = some (.slice (some ⟨sb, so, none⟩) bl cap)) (go_keep) (first | (go_at_call 32; refine (Calls.mono (DQ.out _ D11.out) ?_); rintro e w12 ⟨rfl, hb12⟩; have hb12' : Below w11.heap.size w11 w12 := D11.out.trans hb12; have H12 : Hid (Below W4.heap.size W4 w12) := H11.out.trans (hb12'.mono H11.out.size); have m4 := (hb12'.cell (p := ⟨w3.heap.size, 0, none⟩) q11).trans l4; clear hb12 hb12'))
          go_wp2
          go_roundg (n - (j + 1))
          case measure => omega
          case rel => exact ⟨j + 1, by omega, by omega, by go_num, H12⟩
    · have hjn : j = n := by omega
      subst hjn
      clear l0 l1 l2 l3 l4
      go_wp2
      go_ret
      exact ⟨rfl, HB.out⟩
end Go.Proofs.Ytjlapfgghljidaa
