/-
  A graph as it reads; clone.Check; whether two graphs are alike (clone.Same, the reference's SameGraph).
-/
import Derived.Test.YtgjfmepbphfjoaaGreatUCa
import Derived.Test.YtgjfmepbphfjoaaGreatUSaSbScBa
namespace Go.Proofs.YtgjfmepbphfjoaaGreat
open Go.RowKit

def ClAt (w : World) (b o : Nat) (x : Cl) : Prop :=
  w.cell? ⟨b, o, none⟩ = some (.int .i64 x.n) ∧ ∃ ka kc, w.cell? ⟨b, o + 1, none⟩ = some (.slice ka x.ks.length kc) ∧ IntsAt w ka x.ks

theorem ClAt.below {w w' : World} {b o : Nat} {x : Cl} (h : ClAt w b o x) (hb : Below w.heap.size w w') : ClAt w' b o x := by
  obtain ⟨c0, ka, kc, c1, hk⟩ := h
  exact ⟨keepC c0 hb, ka, kc, keepC c1 hb, hk.below hb⟩

/-- A slice of cells: its length is the list's; where it has any, it leads to them. -/
def ClsAt (w : World) (a : Option Addr) (G : List Cl) : Prop :=
  ∀ i, i < G.length → ∃ b o, a = some ⟨b, o, none⟩ ∧ ClAt w b (o + i * 2) (cl G i)

theorem ClsAt.below {w w' : World} {a : Option Addr} {G : List Cl} (h : ClsAt w a G) (hb : Below w.heap.size w w') : ClsAt w' a G := fun i hi => by
  obtain ⟨b, o, e, hn⟩ := h i hi
  exact ⟨b, o, e, hn.below hb⟩

/-- No list of kids is longer than a slice can be. -/
def BigC (G : List Cl) : Prop := ∀ i, i < G.length → (cl G i).ks.length ≤ 9223372036854775807

/-- What Check answers. -/
def gcheckE (G : List Cl) : Int := if 24 < G.length then 1 else cellsE G.length G

set_option maxHeartbeats 400000 in
theorem noCell_any (x : Int) (m b : Nat) (w : World) (hm : m ≤ 24) (hc : w.cell? ⟨b, 0, none⟩ = some (.int .i64 (m : Int))) :
    Calls Tryz.prog 99 #[.int .i64 x, .pointer (some ⟨b, 0, none⟩)] w fun e w' => e = .returned (.bool (!decide (0 ≤ x ∧ x ≤ (m : Int) - 1))) ∧ w' = w := by
  have hw := within_any x 0 ((m : Int) - 1)
  generalize decide (0 ≤ x ∧ x ≤ (m : Int) - 1) = r at hw
  go_enter Tryz.func99, Tryz.ntmps99
  go_wp2_with (go_at_call 54; refine (hw _).mono ?_; rintro e w' ⟨rfl, rfl⟩)
  go_ret
  exact ⟨rfl, rfl⟩

set_option maxHeartbeats 1600000 in
theorem checkCell_any (x : Cl) (ka : Option Addr) (kc m : Nat) (w : World) (hm : m ≤ 24) (hbig : x.ks.length ≤ 9223372036854775807) (hks : IntsAt w ka x.ks) :
    Calls Tryz.prog 53 #[.agg #[.int .i64 x.n, .slice ka x.ks.length kc], .int .i64 (m : Int)] w fun e w' => e = .returned (.int .i64 (cellE m x)) ∧ Below w.heap.size w w' := by
  unfold cellE
  by_cases h1 : x.n < -1000000 ∨ 1000000 < x.n
  · rw [if_pos h1]
    have hw := fun W => within_no x.n (-1000000) 1000000 W h1
    clear hks h1
    generalize x.ks.length = l at *
    generalize x.n = xn at *
    go_enter Tryz.func53, Tryz.ntmps53
    go_wp2_with (go_at_call 54; refine (hw _).mono ?_; rintro e w' ⟨rfl, rfl⟩)
    go_ret
    exact ⟨rfl, two_belowS _ _ _⟩
  · rw [if_neg h1]
    have hw := fun W => within_yes x.n (-1000000) 1000000 W (by omega) (by omega)
    by_cases h2 : 8 < x.ks.length
    · rw [if_pos h2]
      clear hks h1
      generalize x.ks.length = l at *
      generalize x.n = xn at *
      have h3 : (8 : Int) < (l : Int) := by omega
      go_enter Tryz.func53, Tryz.ntmps53
      go_wp2_with (go_at_call 54; refine (hw _).mono ?_; rintro e w' ⟨rfl, rfl⟩)
      go_ret
      exact ⟨rfl, two_belowS _ _ _⟩
    · rw [if_neg h2]
      have hT : ∀ w1 : World, w1.cell? ⟨w.heap.size + 1, 0, none⟩ = some (.int .i64 (m : Int)) → Tells 99 #[.pointer (some ⟨w.heap.size + 1, 0, none⟩)] (fun k => !decide (0 ≤ k ∧ k ≤ (m : Int) - 1)) w1 := fun w1 h1 y w2 hb2 =>
        (noCell_any y m (w.heap.size + 1) w2 hm (keepC h1 hb2)).mono (fun e w3 h => ⟨h.1, by rw [h.2]; exact Below.refl _ _⟩)
      have d3 := fun (W : World) (hk : IntsAt W ka x.ks) (hc : W.cell? ⟨w.heap.size + 1, 0, none⟩ = some (.int .i64 (m : Int))) => containsFunc_any 99 #[.pointer (some ⟨w.heap.size + 1, 0, none⟩)] (fun k => !decide (0 ≤ k ∧ k ≤ (m : Int) - 1)) ka kc x.ks W hbig hk (enters_of Tryz.func99 (by kernel_rfl) rfl) (hT W hc)
      have K2 : Hid (∀ o1 o2, IntsAt ((w.alloc o1).alloc o2) ka x.ks) := fun o1 o2 => hks.below (two_belowS _ _ _)
      have D3 : Hid _ := d3
      have C2 : Hid (∀ o1, ((w.alloc o1).alloc (.cells #[.int .i64 (m : Int)] 3)).cell? ⟨w.heap.size + 1, 0, none⟩ = some (.int .i64 (m : Int))) := fun o1 => alloc_cell2 w _ _ 0 _ rfl
      clear hks hT d3 h1
      generalize (x.ks.any fun k => !decide (0 ≤ k ∧ k ≤ (m : Int) - 1)) = b3 at *
      obtain ⟨l, hl⟩ : ∃ l, x.ks.length = l := ⟨_, rfl⟩
      rw [hl] at D3 h2 hbig ⊢
      clear hl
      generalize x.n = xn at *
      have h3 : ¬ (8 : Int) < (l : Int) := by omega
      cases b3
      all_goals
        go_enter Tryz.func53, Tryz.ntmps53
        go_wp2_with (first | (go_at_call 54; refine (hw _).mono ?_; rintro e w' ⟨rfl, rfl⟩) | (go_at_call 100; refine (D3.out _ (K2.out _ _) (C2.out _)).mono ?_; rintro e w' ⟨rfl, hb⟩))
        go_ret
        exact ⟨rfl, (two_belowS _ _ _).trans (hb.mono (by simp; omega))⟩

theorem drop_cl {G : List Cl} {k : Nat} (h : k < G.length) : G.drop k = cl G k :: G.drop (k + 1) := by
  rw [cl_elem h]; exact List.drop_eq_getElem_cons h

set_option maxHeartbeats 4000000 in
theorem gcheck_any (a : Option Addr) (c : Nat) (G : List Cl) (w : World) (hN : G.length ≤ 9223372036854775807) (hB : BigC G) (hS : ClsAt w a G) :
    Calls Tryz.prog 21 #[.agg #[.slice a G.length c]] w fun e w' => e = .returned (.int .i64 (gcheckE G)) ∧ Below w.heap.size w w' := by
  unfold gcheckE
  by_cases hbig : 24 < G.length
  · rw [if_pos hbig]
    generalize G.length = n at *
    clear hS hB
    have hbig2 : (24 : Int) < (n : Int) := by omega
    go_enter Tryz.func21, Tryz.ntmps21
    go_wp2
    go_ret
    exact ⟨rfl, one_belowS _ _⟩
  · rw [if_neg hbig]
    have HS : Hid (ClsAt w a G) := hS
    have HCN : Hid (∀ i, i < G.length → ∀ ka kc W, IntsAt W ka (cl G i).ks → Calls _ _ _ _ _) := fun i hi ka kc W hW => checkCell_any (cl G i) ka kc G.length W (by omega) (hB i hi) hW
    have DR : Hid (∀ k, k < G.length → G.drop k = cl G k :: G.drop (k + 1)) := fun k hk => drop_cl hk
    have DN : Hid (G.drop G.length = []) := List.drop_length
    have E0 : Hid (cellsE G.length G = cellsE G.length (G.drop 0)) := rfl
    clear hS hB
    obtain ⟨RES, hR⟩ : ∃ r, cellsE G.length G = r := ⟨_, rfl⟩
    rw [hR] at E0 ⊢
    clear hR
    obtain ⟨n, hn⟩ : ∃ n, G.length = n := ⟨_, rfl⟩
    have HN : Hid (G.length = n) := hn
    rw [hn] at hN hbig HCN DR DN E0 ⊢
    clear hn
    have hbig2 : ¬ (24 : Int) < (n : Int) := by omega
    go_enter Tryz.func21, Tryz.ntmps21
    go_wp2_with fail
    go_loopg [13] n (fun g s13 wr => ∃ k : Nat, k ≤ n ∧ n - k ≤ g ∧ s13 = .int .i64 k ∧ Hid (Below w.heap.size w wr) ∧ wr.cell? ⟨w.heap.size, 0, none⟩ = some (.slice a n c) ∧ Hid (RES = cellsE n (G.drop k)))
    case atStart => exact ⟨0, by omega, by omega, rfl, one_belowS _ _, by go_simp, E0⟩
    case round =>
      obtain ⟨k, hk, hg, rfl, HB, lb, A⟩ := hrel
      have hlb := World.block_lt_of_cell? _ _ lb
      by_cases hlt : k < n
      · have hlt2 : (k : Int) < (n : Int) := by omega
        obtain ⟨b, o, rfl, c0, ka, kc, c1, hks⟩ := (HS.out.below HB.out) k (by rw [HN.out]; exact hlt)
        have hn0 : Hid _ := fun W hW => HCN.out k hlt ka kc W hW
        have KS : Hid (∀ o1, IntsAt (wr.alloc o1) ka (cl G k).ks) := fun o1 => hks.below (one_belowS _ _)
        have EQ : Hid (RES = if cellE n (cl G k) = 0 then cellsE n (G.drop (k + 1)) else cellE n (cl G k)) := by
          show _ = _
          rw [A.out, DR.out k hlt]
          rfl
        clear hks A
        generalize cl G k = x at *
        obtain ⟨xn, xks⟩ := x
        dsimp only at c0 c1
        obtain ⟨ev, hev⟩ : ∃ z, cellE n ⟨xn, xks⟩ = z := ⟨_, rfl⟩
        rw [hev] at hn0 EQ
        obtain ⟨l, hl⟩ : ∃ z, xks.length = z := ⟨_, rfl⟩
        dsimp only at hn0
        rw [hl] at hn0 c1
        clear hev hl
        go_wp2_with fail
        refine Calls.mono (hn0.out _ (KS.out _)) ?_
        rintro e w1 ⟨rfl, hb⟩
        have hb2 : Below wr.heap.size wr w1 := (one_belowS _ _).trans (hb.mono (by simp))
        have HB2 : Hid (Below w.heap.size w w1) := HB.out.trans (hb2.mono HB.out.size)
        have lb2 := keepC lb hb2
        clear hb hb2 lb
        by_cases hz : ev = 0
        · subst hz
          have EQ2 : Hid (RES = cellsE n (G.drop (k + 1))) := by show _ = _; rw [EQ.out, if_pos rfl]
          clear EQ
          go_wp2_with fail
          go_roundg (n - (k + 1))
          case measure => omega
          case rel => exact ⟨k + 1, by omega, by omega, by go_num, HB2, lb2, EQ2⟩
        · have hz2 : (ev == 0) = false := by simp [hz]
          have hz3 : decide (ev = 0) = false := decide_eq_false hz
          have EQ2 : Hid (RES = ev) := by show _ = _; rw [EQ.out, if_neg hz]
          clear EQ
          go_wp2_with fail
          go_ret
          exact ⟨by rw [EQ2.out]; rfl, HB2.out⟩
      · have : k = n := by omega
        subst this
        have EQ2 : Hid (RES = 0) := by show _ = _; rw [A.out, DN.out]; rfl
        clear A
        go_wp2_with fail
        go_ret
        exact ⟨by rw [EQ2.out]; rfl, HB.out⟩

theorem cl_eq_iff (x y : Cl) : x = y ↔ (x.n = y.n ∧ x.ks = y.ks) := by
  constructor
  · rintro rfl; exact ⟨rfl, rfl⟩
  · obtain ⟨a, b⟩ := x
    obtain ⟨c, d⟩ := y
    rintro ⟨rfl, rfl⟩
    rfl

/-- What is asked of a function value that tells whether two cells are alike. -/
def TellsC (K : Nat) : Prop := ∀ (x y : Cl) (ka ka' : Option Addr) (kc kc' : Nat) (W : World), x.ks.length ≤ 9223372036854775807 → IntsAt W ka x.ks → IntsAt W ka' y.ks →
  Calls Tryz.prog K #[.agg #[.int .i64 x.n, .slice ka x.ks.length kc], .agg #[.int .i64 y.n, .slice ka' y.ks.length kc']] W fun e w' => ∃ r : Bool, e = .returned (.bool r) ∧ Below W.heap.size W w' ∧ (r = true ↔ x = y)

set_option maxHeartbeats 1000000 in
theorem equalCells_any (K : Nat) (eg : ∀ args w, (callFunc K args).run Tryz.prog w = .ok (.enter K args) w) (hK : TellsC K) (a a' : Option Addr) (c c' : Nat) (S S' : List Cl) (w : World) (hN : S.length ≤ 9223372036854775807) (hB : BigC S) (h1 : ClsAt w a S) (h2 : ClsAt w a' S') :
    Calls Tryz.prog 47 #[.slice a S.length c, .slice a' S'.length c', .func (.func K) #[] #[]] w fun e w' => ∃ r : Bool, e = .returned (.bool r) ∧ Below w.heap.size w w' ∧ (r = true ↔ S = S') := by
  by_cases hl : S.length = S'.length
  · have E1 : Hid ((∀ i, i < S.length → cl S i = cl S' i) → S = S') := fun h => cl_ext hl h
    have E2 : Hid (∀ i, cl S i ≠ cl S' i → S ≠ S') := fun i h e => h (by rw [e])
    have H1 : Hid (ClsAt w a S) := h1
    have H2 : Hid (ClsAt w a' S') := h2
    have HB : Hid (BigC S) := hB
    have HK : Hid (TellsC K) := hK
    have HL : Hid (S'.length = S.length) := hl.symm
    rw [← hl]
    clear h1 h2 hB hl hK
    generalize hn : S.length = n at *
    have HN : Hid _ := hn
    clear hn
    go_enter Tryz.func47, Tryz.ntmps47
    go_wp2
    go_loopg [17] n (fun g s17 wr => ∃ k : Nat, k ≤ n ∧ n - k ≤ g ∧ s17 = .int .i64 k ∧ Below w.heap.size w wr ∧ Hid (∀ i, i < k → cl S i = cl S' i))
    case atStart => exact ⟨0, by omega, by omega, rfl, Below.refl _ _, fun i hi => by omega⟩
    case round =>
      obtain ⟨k, hk, hg, rfl, hb, A⟩ := hrel
      by_cases hlt : k < n
      · have hlt2 : (k : Int) < (n : Int) := by omega
        obtain ⟨b, o, rfl, c0, ka, kc, c5, hk1⟩ := (H1.out.below hb) k (by rw [HN.out]; exact hlt)
        obtain ⟨b', o', rfl, e0, ka', kc', e5, hk2⟩ := (H2.out.below hb) k (by rw [HL.out]; exact hlt)
        have hbb := World.block_lt_of_cell? _ _ c0
        have hbb' := World.block_lt_of_cell? _ _ e0
        have d1 := fun o1 o2 => HK.out (cl S k) (cl S' k) ka ka' kc kc' ((wr.alloc o1).alloc o2) (HB.out k (by rw [HN.out]; exact hlt)) (hk1.below (two_belowS _ _ _)) (hk2.below (two_belowS _ _ _))
        have EK2 : Hid _ := E2.out k
        have KK : Hid (cl S k = cl S' k → ∀ i, i < k + 1 → cl S i = cl S' i) := fun h i hi => by
          by_cases e : i = k
          · subst e; exact h
          · exact A.out i (by omega)
        clear hk1 hk2
        have D1 : Hid _ := d1
        clear d1
        generalize cl S k = x at *
        generalize cl S' k = y at *
        go_wp2_with fail
        refine (D1.out _ _).mono ?_
        rintro e w3 ⟨r, rfl, hb3, hr⟩
        cases r with
        | true =>
          have HR : Hid _ := hr.1 rfl
          clear hr
          go_wp2
          go_roundg (n - (k + 1))
          case measure => omega
          case rel => exact ⟨k + 1, by omega, by omega, by go_num, (hb.trans ((two_belowS _ _ _).mono hb.size)).trans (hb3.mono (by simp; have := hb.size; omega)), KK.out HR.out⟩
        | false =>
          have HR : Hid (S ≠ S') := EK2.out fun e => by have := hr.2 e; cases this
          clear hr
          go_wp2
          go_ret
          exact ⟨false, rfl, (hb.trans ((two_belowS _ _ _).mono hb.size)).trans (hb3.mono (by simp; have := hb.size; omega)), ⟨fun h => (by cases h), fun h => absurd h HR.out⟩⟩
      · have : k = n := by omega
        subst this
        go_wp2
        go_ret
        exact ⟨true, rfl, hb, ⟨fun _ => E1.out A.out, fun _ => rfl⟩⟩
  · have hl' : ¬ ((S.length : Int) = (S'.length : Int)) := by omega
    have HNE : Hid (S ≠ S') := fun e => hl (by rw [e])
    clear h1 h2 hB hK
    generalize S.length = n at *
    generalize S'.length = n' at *
    go_enter Tryz.func47, Tryz.ntmps47
    go_wp2
    go_ret
    exact ⟨false, rfl, Below.refl _ _, ⟨fun h => (by cases h), fun h => absurd h HNE.out⟩⟩

set_option maxHeartbeats 800000 in
theorem gsame1_any : TellsC 79 := by
  intro x y ka ka' kc kc' W hbig h1 h2
  have IFF : Hid (x = y ↔ (x.n = y.n ∧ x.ks = y.ks)) := cl_eq_iff x y
  have d := fun (w' : World) (i1 : IntsAt w' ka x.ks) (i2 : IntsAt w' ka' y.ks) => equal_any ka ka' kc kc' x.ks y.ks w' hbig i1 i2
  have D : Hid _ := d
  have I1 : Hid (∀ o1 o2, IntsAt ((W.alloc o1).alloc o2) ka x.ks) := fun o1 o2 => h1.below (two_belowS _ _ _)
  have I2 : Hid (∀ o1 o2, IntsAt ((W.alloc o1).alloc o2) ka' y.ks) := fun o1 o2 => h2.below (two_belowS _ _ _)
  clear h1 h2 d
  obtain ⟨xn, xks⟩ := x
  obtain ⟨yn, yks⟩ := y
  dsimp only at IFF D I1 I2 ⊢
  obtain ⟨xl, hxl⟩ : ∃ z, xks.length = z := ⟨_, rfl⟩
  obtain ⟨yl, hyl⟩ : ∃ z, yks.length = z := ⟨_, rfl⟩
  rw [hxl, hyl] at D
  rw [hxl, hyl]
  clear hxl hyl hbig
  by_cases he : xn = yn
  · have IFF2 : Hid ((⟨xn, xks⟩ : Cl) = ⟨yn, yks⟩ ↔ xks = yks) := by show _ ↔ _; rw [IFF.out]; simp [he]
    subst he
    clear IFF
    go_enter Tryz.func79, Tryz.ntmps79
    go_wp2_with fail
    refine Calls.mono (D.out _ (I1.out _ _) (I2.out _ _)) ?_
    rintro e w1 ⟨rfl, hb⟩
    have HB : Hid (Below W.heap.size W w1) := (two_belowS _ _ _).trans (hb.mono (by simp; omega))
    clear hb
    by_cases hk : xks = yks
    · have HR : Hid _ := IFF2.out.2 hk
      rw [decide_eq_true hk]
      clear hk IFF2
      go_wp2
      go_ret
      exact ⟨true, rfl, HB.out, ⟨fun _ => HR.out, fun _ => rfl⟩⟩
    · have HR : Hid _ := fun h => hk (IFF2.out.1 h)
      rw [decide_eq_false hk]
      clear hk IFF2
      go_wp2
      go_ret
      exact ⟨false, rfl, HB.out, ⟨fun h => (by cases h), fun h => absurd h HR.out⟩⟩
  · have hd : decide (xn = yn) = false := decide_eq_false he
    have hd2 : (xn == yn) = false := by simp [he]
    have HR : Hid (¬ (⟨xn, xks⟩ : Cl) = ⟨yn, yks⟩) := fun h => he (IFF.out.1 h).1
    clear IFF
    go_enter Tryz.func79, Tryz.ntmps79
    go_wp2_with fail
    go_ret
    exact ⟨false, rfl, two_belowS _ _ _, ⟨fun h => (by cases h), fun h => absurd h HR.out⟩⟩

set_option maxHeartbeats 400000 in
theorem gsame_any (a a' : Option Addr) (c c' : Nat) (S S' : List Cl) (w : World) (hN : S.length ≤ 9223372036854775807) (hB : BigC S) (h1 : ClsAt w a S) (h2 : ClsAt w a' S') :
    Calls Tryz.prog 32 #[.agg #[.slice a S.length c], .agg #[.slice a' S'.length c']] w fun e w' => ∃ r : Bool, e = .returned (.bool r) ∧ Below w.heap.size w w' ∧ (r = true ↔ S = S') := by
  have D1 : Hid _ := fun o1 o2 => equalCells_any 79 (enters_of Tryz.func79 (by kernel_rfl) rfl) gsame1_any a a' c c' S S' ((w.alloc o1).alloc o2) hN hB (h1.below (two_belowS _ _ _)) (h2.below (two_belowS _ _ _))
  clear h1 h2 hB
  generalize S.length = n at *
  generalize S'.length = n' at *
  go_enter Tryz.func32, Tryz.ntmps32
  go_wp2_with (go_at_call 47; refine (D1.out _ _).mono ?_; rintro e w1 ⟨r, rfl, hb, hr⟩; have HR : Hid _ := hr; clear hr)
  go_ret
  exact ⟨r, rfl, (two_belowS _ _ _).trans (hb.mono (by simp; omega)), HR.out⟩

set_option maxHeartbeats 800000 in
theorem rgsame1_any : TellsC 48 := by
  intro x y ka ka' kc kc' W hbig h1 h2
  have IFF : Hid (x = y ↔ (x.n = y.n ∧ x.ks = y.ks)) := cl_eq_iff x y
  have d := fun (w' : World) (i1 : IntsAt w' ka x.ks) (i2 : IntsAt w' ka' y.ks) => equal_any ka ka' kc kc' x.ks y.ks w' hbig i1 i2
  have D : Hid _ := d
  have I1 : Hid (∀ o1 o2, IntsAt ((W.alloc o1).alloc o2) ka x.ks) := fun o1 o2 => h1.below (two_belowS _ _ _)
  have I2 : Hid (∀ o1 o2, IntsAt ((W.alloc o1).alloc o2) ka' y.ks) := fun o1 o2 => h2.below (two_belowS _ _ _)
  clear h1 h2 d
  obtain ⟨xn, xks⟩ := x
  obtain ⟨yn, yks⟩ := y
  dsimp only at IFF D I1 I2 ⊢
  obtain ⟨xl, hxl⟩ : ∃ z, xks.length = z := ⟨_, rfl⟩
  obtain ⟨yl, hyl⟩ : ∃ z, yks.length = z := ⟨_, rfl⟩
  rw [hxl, hyl] at D
  rw [hxl, hyl]
  clear hxl hyl hbig
  by_cases he : xn = yn
  · have IFF2 : Hid ((⟨xn, xks⟩ : Cl) = ⟨yn, yks⟩ ↔ xks = yks) := by show _ ↔ _; rw [IFF.out]; simp [he]
    subst he
    clear IFF
    go_enter Tryz.func48, Tryz.ntmps48
    go_wp2_with fail
    refine Calls.mono (D.out _ (I1.out _ _) (I2.out _ _)) ?_
    rintro e w1 ⟨rfl, hb⟩
    have HB : Hid (Below W.heap.size W w1) := (two_belowS _ _ _).trans (hb.mono (by simp; omega))
    clear hb
    by_cases hk : xks = yks
    · have HR : Hid _ := IFF2.out.2 hk
      rw [decide_eq_true hk]
      clear hk IFF2
      go_wp2
      go_ret
      exact ⟨true, rfl, HB.out, ⟨fun _ => HR.out, fun _ => rfl⟩⟩
    · have HR : Hid _ := fun h => hk (IFF2.out.1 h)
      rw [decide_eq_false hk]
      clear hk IFF2
      go_wp2
      go_ret
      exact ⟨false, rfl, HB.out, ⟨fun h => (by cases h), fun h => absurd h HR.out⟩⟩
  · have hd : decide (xn = yn) = false := decide_eq_false he
    have hd2 : (xn == yn) = false := by simp [he]
    have HR : Hid (¬ (⟨xn, xks⟩ : Cl) = ⟨yn, yks⟩) := fun h => he (IFF.out.1 h).1
    clear IFF
    go_enter Tryz.func48, Tryz.ntmps48
    go_wp2_with fail
    go_ret
    exact ⟨false, rfl, two_belowS _ _ _, ⟨fun h => (by cases h), fun h => absurd h HR.out⟩⟩

set_option maxHeartbeats 400000 in
theorem rgsame_any (a a' : Option Addr) (c c' : Nat) (S S' : List Cl) (w : World) (hN : S.length ≤ 9223372036854775807) (hB : BigC S) (h1 : ClsAt w a S) (h2 : ClsAt w a' S') :
    Calls Tryz.prog 18 #[.agg #[.slice a S.length c], .agg #[.slice a' S'.length c']] w fun e w' => ∃ r : Bool, e = .returned (.bool r) ∧ Below w.heap.size w w' ∧ (r = true ↔ S = S') := by
  have D1 : Hid _ := fun o1 o2 => equalCells_any 48 (enters_of Tryz.func48 (by kernel_rfl) rfl) rgsame1_any a a' c c' S S' ((w.alloc o1).alloc o2) hN hB (h1.below (two_belowS _ _ _)) (h2.below (two_belowS _ _ _))
  clear h1 h2 hB
  generalize S.length = n at *
  generalize S'.length = n' at *
  go_enter Tryz.func18, Tryz.ntmps18
  go_wp2_with (go_at_call 47; refine (D1.out _ _).mono ?_; rintro e w1 ⟨r, rfl, hb, hr⟩; have HR : Hid _ := hr; clear hr)
  go_ret
  exact ⟨r, rfl, (two_belowS _ _ _).trans (hb.mono (by simp; omega)), HR.out⟩
end Go.Proofs.YtgjfmepbphfjoaaGreat
