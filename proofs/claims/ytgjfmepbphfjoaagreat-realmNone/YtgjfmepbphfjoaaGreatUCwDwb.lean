/-
  CopyGraph: a graph in new memory.
-/
import Derived.Test.YtgjfmepbphfjoaaGreatUDnCtDwhOwMwMx
import Derived.Test.YtgjfmepbphfjoaaGreatUTaBeBf
import Derived.Deep.RegionHeld3
import Derived.Test.YtgjfmepbphfjoaaGreatUDkDwa
import Derived.Test.YtgjfmepbphfjoaaGreatUZf
namespace Go.Proofs.YtgjfmepbphfjoaaGreat
open Go.RowKit Go.ChangeShapes Go.WideShapes
set_option linter.unusedVariables false

structure ECl where
  n : Int
  ka : Option Addr
  kl : Nat
  kc : Nat
def cvCl (x : ECl) : Nat → Value
  | 0 => .int .i64 x.n
  | _ => .slice x.ka x.kl x.kc
theorem makeCl (n : Nat) (hn : n ≤ 100000) (w : World) : (Instr.makeSlice 26 (.int .i64 (n : Int)) (.int .i64 (n : Int))).run Tryz.prog w = .ok (.slice (some ⟨w.heap.size, 0, none⟩) n n) (w.alloc (.cells (madeCells #[.int .i64 0, .slice none 0 0] (n * 2)) 45)) := by
  have hz : (Tryz.prog.info? 45).map (fun i => (i.zero, i.size, i.bytes)) = some (some (.agg #[.int .i64 0, .slice none 0 0]), 2, 32) := by kernel_rfl
  obtain ⟨i, hi, hz0, hz1, hz2⟩ := info_parts hz
  have h := run_make (P := Tryz.prog) w 26 45 i _ Tryz.underlying26 hi hz0 .i64 .i64 n n (by omega) (by omega) (by rw [hz2]; omega) (by omega)
  rw [hz1] at h
  simp only [Int.toNat_natCast] at h
  exact h
theorem EachI.putCl {w : World} {g n k : Nat} {F : Nat → Value} (h : w.rowIs g 45 (n * 2) F) (x : ECl) : ∃ F', ((w.setCell ⟨g, k * 2, none⟩ (.int .i64 x.n)).setCell ⟨g, k * 2 + 1, none⟩ (.slice x.ka x.kl x.kc)).rowIs g 45 (n * 2) F' ∧ (∀ j, j < 2 → F' (k * 2 + j) = cvCl x j) ∧ ∀ i, i < k → ∀ j, j < 2 → F' (i * 2 + j) = F (i * 2 + j) := by
  refine ⟨_, (h.set _ _).set _ _, fun j hj => ?_, fun i hi j hj => ?_⟩
  · rcases (by omega : j = 0 ∨ j = 1) with rfl | rfl
    · rw [if_neg (by omega), if_pos (by omega)]; rfl
    · rw [if_pos rfl]; rfl
  · rw [if_neg (by omega), if_neg (by omega)]

set_option maxRecDepth 100000 in
set_option maxHeartbeats 2000000 in
theorem eachCl (K : Nat) (eg : ∀ args w, (callFunc K args).run Tryz.prog w = .ok (.enter K args) w) (a : Option Addr) (c n : Nat) (S : Nat → ECl) (R : Nat → ECl → Nat → Nat → World → Prop) (w : World) (hn : n ≤ 100000)
    (hs : ∀ i, i < n → ∃ b o, a = some ⟨b, o, none⟩ ∧ w.cell? ⟨b, o + i * 2, none⟩ = some (.int .i64 (S i).n) ∧ w.cell? ⟨b, o + i * 2 + 1, none⟩ = some (.slice (S i).ka (S i).kl (S i).kc))
    (hK : ∀ i, i < n → ∀ W, Below w.heap.size w W → Calls Tryz.prog K #[.agg #[.int .i64 (S i).n, .slice (S i).ka (S i).kl (S i).kc]] W fun e W' => ∃ y : ECl, e = .returned (.agg #[.int .i64 y.n, .slice y.ka y.kl y.kc]) ∧ Below W.heap.size W W' ∧ St (fun b => b < W.heap.size ∨ W'.heap.size ≤ b) (R i y W.heap.size W'.heap.size) W') :
    Calls Tryz.prog 115 #[.slice a n c, .func (.func K) #[] #[]] w fun e w' => e = .returned (.slice (some ⟨w.heap.size, 0, none⟩) n n) ∧ Below w.heap.size w w' ∧ EachI cvCl 45 2 n R w.heap.size n w' := by
  have HS : Hid _ := hs
  have HK : Hid _ := hK
  clear hs hK
  have hmk := makeCl n hn
  go_enter Tryz.func115, Tryz.ntmps115
  go_wp2
  go_loopg [13] n (fun m s13 wr => ∃ k : Nat, k ≤ n ∧ n - k ≤ m ∧ s13 = .int .i64 k ∧ Below w.heap.size w wr ∧ Hid (EachI cvCl 45 2 n R w.heap.size k wr))
  case atStart => exact ⟨0, by omega, by omega, rfl, one_belowS _ _, EachI.zero w _ 45 2 n R (S 0)⟩
  case round =>
    obtain ⟨k, hk, hg, rfl, hb, O⟩ := hrel
    by_cases hlt : k < n
    · have hlt2 : (k : Int) < (n : Int) := by omega
      obtain ⟨b, o, rfl, c0, c1⟩ := HS.out k hlt
      replace c0 := keepC c0 hb
      replace c1 := keepC c1 hb
      have hbw : b < wr.heap.size := World.block_lt_of_cell? _ _ c0
      obtain ⟨hgl, hfz, F, hF⟩ := O.out.facts
      have D : Hid (∀ W, Below wr.heap.size wr W → Calls _ _ _ _ _) := fun W hW => HK.out k hlt W (hb.trans (hW.mono hb.size))
      generalize S k = x at *
      obtain ⟨xn, xka, xkl, xkc⟩ := x
      dsimp only at c0 c1 D
      go_wp2_with (go_at_fn K; refine (D.out _ ?nd).mono ?_; (case nd => exact one_belowS _ _); rintro e w3 ⟨⟨yn, yka, ykl, ykc⟩, rfl, hb3, h3⟩; have HR : Hid _ := h3; clear h3; have B3 : Hid (Below wr.heap.size wr w3) := (one_belowS _ _).trans (hb3.mono (by simp)); have s3 : Hid (wr.heap.size ≤ w3.heap.size) := B3.out.size; have SZ : Hid _ := hb3.size; clear hb3; have q0 := (B3.out.cell (by exact hgl)).trans (hF (k * 2) (by omega)); have q1 := (B3.out.cell (by exact hgl)).trans (hF (k * 2 + 1) (by omega)); have hfz3 := fun o => (B3.out.frozen (by exact hgl)).trans (hfz o); have hg3 : w.heap.size < w3.heap.size := Nat.lt_of_lt_of_le hgl s3.out)
      go_roundg (n - (k + 1))
      case measure => omega
      case rel =>
        refine ⟨k + 1, by omega, by omega, by go_num, (((hb.trans (B3.out.mono hb.size)).setCell (by simp) _).setCell (by simp) _), EachI.step O.out hlt B3.out (by simp) ?_ HR.out rfl (((OffX.refl (fun b => b = w.heap.size) _).trans (OffX.set (X := fun b => b = w.heap.size) _ _ rfl)).trans (OffX.set (X := fun b => b = w.heap.size) _ _ rfl)) (fun F hF => EachI.putCl hF ⟨yn, yka, ykl, ykc⟩)⟩
        have := SZ.out; simpa using this
    · have : k = n := by omega
      subst this
      go_wp2
      go_ret
      exact ⟨rfl, hb, O.out⟩

/-- A cell as it comes out of CopyGraph. -/
def RCl (G : List Cl) (i : Nat) (y : ECl) (lo hi : Nat) (V : World) : Prop := y.n = (cl G i).n ∧ y.kl = (cl G i).ks.length ∧ IntsAt V y.ka (cl G i).ks
theorem cls_each {w : World} {g : Nat} {G : List Cl} (h : EachI cvCl 45 2 G.length (RCl G) g G.length w) : ClsAt w (some ⟨g, 0, none⟩) G := fun i hi => by
  obtain ⟨v, _, _, F, hF, hv⟩ := h
  obtain ⟨h1, _, _, _, _, h6⟩ := hv i hi
  obtain ⟨e0, e1, hI⟩ := h6.at
  refine ⟨g, 0, rfl, ?_⟩
  rw [Nat.zero_add]
  refine ⟨(hF.cell (by omega)).trans ?_, (v i).ka, (v i).kc, (hF.cell (by omega)).trans ?_, hI⟩
  · rw [← e0]
    exact congrArg some (h1 0 (by omega))
  · rw [← e1]
    exact congrArg some (h1 1 (by omega))

set_option maxRecDepth 100000 in
set_option maxHeartbeats 2000000 in
theorem ccell_any (n : Int) (ka : Option Addr) (kc : Nat) (ks : List Int) (w : World) (hk : ks.length ≤ 1000) (hks : IntsAt w ka ks) :
    Calls Tryz.prog 116 #[.agg #[.int .i64 n, .slice ka ks.length kc]] w fun e w' => ∃ g, e = .returned (.agg #[.int .i64 n, .slice (some ⟨g, 0, none⟩) ks.length ks.length]) ∧ Below w.heap.size w w' ∧ w.heap.size ≤ g ∧ w'.rowIs g 3 ks.length (fun j => .int .i64 (ks.getD j 0)) := by
  have D : Hid (∀ W, Below w.heap.size w W → Calls _ _ _ _ _) := fun W hW => copyKids_any ka kc ks W (by omega) (hks.below hW)
  clear hks hk
  obtain ⟨l, hl⟩ : ∃ l, ks.length = l := ⟨_, rfl⟩
  rw [hl] at D ⊢
  clear hl
  go_enter Tryz.func116, Tryz.ntmps116
  go_wp2_with fail
  obtain ⟨V, hV⟩ : ∃ V, (w.alloc (.cells #[.int .i64 n, .slice ka l kc] 45)).alloc (.cells #[.int .i64 0, .slice none 0 0] 45) = V := ⟨_, rfl⟩
  have v0 : V.cell? ⟨w.heap.size, 0, none⟩ = some (.int .i64 n) := by rw [← hV]; exact alloc_cell1 _ _ _ 0 _ rfl
  have v1 : V.cell? ⟨w.heap.size, 1, none⟩ = some (.slice ka l kc) := by rw [← hV]; exact alloc_cell1 _ _ _ 1 _ rfl
  have z0 : V.cell? ⟨w.heap.size + 1, 0, none⟩ = some (.int .i64 0) := by rw [← hV]; exact alloc_cell2 _ _ _ 0 _ rfl
  have z1 : V.cell? ⟨w.heap.size + 1, 1, none⟩ = some (.slice none 0 0) := by rw [← hV]; exact alloc_cell2 _ _ _ 1 _ rfl
  have zf : ∀ o, V.frozen? ⟨w.heap.size + 1, o, none⟩ = false := fun o => by rw [← hV]; exact alloc_fz2 _ _ _ _ _
  have BV : Hid (Below w.heap.size w V) := by rw [← hV]; exact two_belowS _ _ _
  have sV : w.heap.size + 1 < V.heap.size := World.block_lt_of_cell? _ _ z0
  have sV0 : w.heap.size < V.heap.size := World.block_lt_of_cell? _ _ v0
  rw [hV]
  clear hV
  go_region_held3 (fun w'' => w''.cell? ⟨w.heap.size, 0, none⟩ = some (.int .i64 n) ∧ w''.cell? ⟨w.heap.size, 1, none⟩ = some (.slice ka l kc)) (go_keep) (first | (go_at_call 73; refine Calls.mono (D.out _ ?nd) ?_; (case nd => exact BV.out.drew); rintro e w3 ⟨rfl, hb3, hrow⟩; have HV3 : Hid (Below V.heap.size V w3) := (Below.refl V.heap.size V).drew.trans hb3; have HB3 : Hid (Below w.heap.size w w3) := BV.out.trans (HV3.out.mono BV.out.size); have HR : Hid (w3.rowIs V.heap.size 3 l (fun j => .int .i64 (ks.getD j 0))) := hrow; have u0 := keepC v0 HV3.out; have u1 := keepC v1 HV3.out; have q0 := keepC z0 HV3.out; have q1 := keepC z1 HV3.out; have fz := fun o => (HV3.out.frozen (show (⟨w.heap.size + 1, o, none⟩ : Addr).block < V.heap.size from sV)).trans (zf o); have s3 : V.heap.size < w3.heap.size := World.rowIs.lt hrow; clear hb3 hrow))
  go_wp2
  refine bodyPost_ret (v := .agg #[.int .i64 n, .slice (some ⟨V.heap.size, 0, none⟩) l l]) (by simp [results, Tryz.results116, go_sem, q0, q1]) rfl ⟨V.heap.size, rfl, (HB3.out.setCell (by simp) _).setCell (by simp) _, BV.out.size, (HR.out.setOther (by simp; omega) _).setOther (by simp; omega) _⟩
theorem copyEachCl (a : Option Addr) (c : Nat) (G : List Cl) (w : World) (hN : G.length ≤ 1000) (hK : ∀ i, i < G.length → (cl G i).ks.length ≤ 1000) (hG : ClsAt w a G) :
    Calls Tryz.prog 115 #[.slice a G.length c, .func (.func 116) #[] #[]] w fun e w' => e = .returned (.slice (some ⟨w.heap.size, 0, none⟩) G.length G.length) ∧ Below w.heap.size w w' ∧ EachI cvCl 45 2 G.length (RCl G) w.heap.size G.length w' := by
  obtain ⟨f, hf⟩ := Classical.skolem.1 (fun i => show ∃ x : Option Addr × Nat, i < G.length → (∃ b o, a = some ⟨b, o, none⟩ ∧ w.cell? ⟨b, o + i * 2, none⟩ = some (.int .i64 (cl G i).n) ∧ w.cell? ⟨b, o + i * 2 + 1, none⟩ = some (.slice x.1 (cl G i).ks.length x.2)) ∧ IntsAt w x.1 (cl G i).ks by
    by_cases hi : i < G.length
    · obtain ⟨b, o, e, c0, ka, kc, c1, hks⟩ := hG i hi
      exact ⟨(ka, kc), fun _ => ⟨⟨b, o, e, c0, c1⟩, hks⟩⟩
    · exact ⟨(none, 0), fun h => absurd h hi⟩)
  refine eachCl 116 (enters_of Tryz.func116 (by kernel_rfl) rfl) a c G.length (fun i => ⟨(cl G i).n, (f i).1, (cl G i).ks.length, (f i).2⟩) (RCl G) w (by omega) (fun i hi => (hf i hi).1) (fun i hi W hW => ?_)
  refine (ccell_any (cl G i).n (f i).1 (f i).2 (cl G i).ks W (hK i hi) ((hf i hi).2.below hW)).mono ?_
  rintro e w' ⟨g, rfl, hb, hg, hr⟩
  refine ⟨⟨(cl G i).n, some ⟨g, 0, none⟩, (cl G i).ks.length, (cl G i).ks.length⟩, rfl, hb, fun w2 ho => ⟨rfl, rfl, ints_row (hr.of_block (ho.block g hr.lt (fun hx => ?_)))⟩⟩
  have := hr.lt
  rcases hx with hx | hx <;> omega

set_option maxHeartbeats 1000000 in
theorem cgraph_any (a : Option Addr) (c : Nat) (G : List Cl) (w : World) (hN : G.length ≤ 1000) (hK : ∀ i, i < G.length → (cl G i).ks.length ≤ 1000) (hG : ClsAt w a G) :
    Calls Tryz.prog 72 #[.agg #[.slice a G.length c]] w fun e w' => ∃ g, e = .returned (.agg #[.slice (some ⟨g, 0, none⟩) G.length G.length]) ∧ Below w.heap.size w w' ∧ w.heap.size ≤ g ∧ St (fun b => b < w.heap.size ∨ w'.heap.size ≤ b) (fun V => ClsAt V (some ⟨g, 0, none⟩) G) w' := by
  have D : Hid (∀ o1 o2, Calls _ _ _ _ _) := fun o1 o2 => copyEachCl a c G ((w.alloc o1).alloc o2) hN hK (hG.below (two_belowS _ _ _))
  have FN : Hid (∀ V : World, EachI cvCl 45 2 G.length (RCl G) (w.heap.size + 1 + 1) G.length V → St (fun b => b < w.heap.size ∨ V.heap.size ≤ b) (fun V => ClsAt V (some ⟨w.heap.size + 1 + 1, 0, none⟩) G) V) := fun V h => (h.st (by omega) (Nat.le_refl _)).imp (fun V h => cls_each h)
  clear hG hK
  simp only [World.size_alloc] at D
  generalize G.length = n at *
  go_enter Tryz.func72, Tryz.ntmps72
  go_wp2_with (go_at_call 115; refine (D.out _ _).mono ?_; rintro e w3 ⟨rfl, hb3, h3⟩; have H3 : Hid (EachI cvCl 45 2 n (RCl G) (w.heap.size + 1 + 1) n w3) := h3; clear h3; have y1 : w3.cell? ⟨w.heap.size + 1, 0, none⟩ = some (.slice none 0 0) := (hb3.cell (by simp)).trans (by go_simp); have y2 : ∀ o, w3.frozen? ⟨w.heap.size + 1, o, none⟩ = false := fun o => (hb3.frozen (by simp)).trans (by go_simp); have B3 : Hid (Below w.heap.size w w3) := (two_belowS _ _ _).trans (hb3.mono (by omega)); clear hb3)
  refine bodyPost_ret (v := .agg #[.slice (some ⟨w.heap.size + 1 + 1, 0, none⟩) n n]) (by simp [results, Tryz.results72, go_sem, y1]) rfl ⟨w.heap.size + 1 + 1, rfl, B3.out.setCell (by simp) _, by omega, FN.out _ (H3.out.set (by omega) _)⟩
end Go.Proofs.YtgjfmepbphfjoaaGreat

namespace Go.Proofs.YtgjfmepbphfjoaaGreat
open Go.RowKit Go.ChangeShapes Go.WideShapes
set_option linter.unusedVariables false

/-- Hands, cell by cell. -/
def hcF (hs : List (Int × Int)) : Nat → Value := fun j => .int .i64 (if j % 2 = 0 then (hs.getD (j / 2) (0, 0)).1 else (hs.getD (j / 2) (0, 0)).2)
theorem hcF_0 (hs : List (Int × Int)) (i : Nat) : hcF hs (i * 2) = .int .i64 (hs.getD i (0, 0)).1 := by
  unfold hcF
  rw [if_pos (by omega), show i * 2 / 2 = i by omega]
theorem hcF_1 (hs : List (Int × Int)) (i : Nat) : hcF hs (i * 2 + 1) = .int .i64 (hs.getD i (0, 0)).2 := by
  unfold hcF
  rw [if_neg (by omega), show (i * 2 + 1) / 2 = i by omega]
theorem hands_row {w : World} {h : Nat} {hs : List (Int × Int)} (hr : w.rowIs h 39 (hs.length * 2) (hcF hs)) : HandsAt w (some ⟨h, 0, none⟩) hs := fun i hi => by
  refine ⟨h, 0, rfl, ?_, ?_⟩
  · rw [Nat.zero_add, hr.cell (by omega), hcF_0]
  · rw [Nat.zero_add, hr.cell (by omega), hcF_1]
/-- One hand set. -/
theorem hcF_set (hs : List (Int × Int)) (k : Nat) (x : Int × Int) (hk : k < hs.length) : (fun j => if j = k * 2 + 1 then Value.int .i64 x.2 else if j = k * 2 then Value.int .i64 x.1 else hcF hs j) = hcF (hs.set k x) := by
  have key : ∀ i, (hs.set k x).getD i (0, 0) = if i = k then x else hs.getD i (0, 0) := fun i => by
    by_cases e : i = k
    · subst e
      rw [if_pos rfl]
      simp [List.getD_eq_getElem?_getD, hk]
    · rw [if_neg e]
      exact getD_set _ _ _ _ _ e
  funext j
  unfold hcF
  rw [key]
  by_cases h1 : j = k * 2 + 1
  · subst h1
    rw [if_pos rfl, if_neg (by omega), if_pos (by omega)]
  · rw [if_neg h1]
    by_cases h2 : j = k * 2
    · subst h2
      rw [if_pos rfl, if_pos (by omega), if_pos (by omega)]
    · rw [if_neg h2, if_neg (show ¬ j / 2 = k by omega)]

/-- A store in a row, that and its children's rows none of X. -/
def OwnP (w : World) (g : Nat) (X : Nat → Prop) (S : List Nd) : Prop :=
  ¬ X g ∧ ∃ F, w.rowIs g 47 (S.length * 8) F ∧ ∀ i, i < S.length → ∃ kb kc, NdR w F (i * 8) (nd S i) kb kc ∧ kb ≠ g ∧ ¬ X kb
theorem OwnP.off {w w' : World} {g : Nat} {X : Nat → Prop} {S : List Nd} (h : OwnP w g X S) (ho : OffX X w w') : OwnP w' g X S := by
  obtain ⟨hg, F, hF, hN⟩ := h
  refine ⟨hg, F, hF.of_block (ho.block g hF.lt hg), fun i hi => ?_⟩
  obtain ⟨kb, kc, ⟨e0, e1, e2, e3, e4, e5, e6, e7, e8, e8b, G, hG, e9⟩, hk, hx⟩ := hN i hi
  exact ⟨kb, kc, ⟨e0, e1, e2, e3, e4, e5, e6, e7, e8, e8b, G, hG.of_block (ho.block kb hG.lt hx), e9⟩, hk, hx⟩
theorem OwnP.lt {w : World} {g : Nat} {X : Nat → Prop} {S : List Nd} (h : OwnP w g X S) : g < w.heap.size := by
  obtain ⟨_, F, hF, _⟩ := h
  exact hF.lt
theorem OwnP.grow {w : World} {g : Nat} {X Y : Nat → Prop} {S : List Nd} (h : OwnP w g X S) (hY : ∀ b, b < w.heap.size → Y b → X b) : OwnP w g Y S := by
  obtain ⟨hg, F, hF, hN⟩ := h
  refine ⟨fun hy => hg (hY g hF.lt hy), F, hF, fun i hi => ?_⟩
  obtain ⟨kb, kc, h1, hk, hx⟩ := hN i hi
  exact ⟨kb, kc, h1, hk, fun hy => hx (hY kb h1.row hy)⟩
theorem OwnP.nds {w : World} {g : Nat} {X : Nat → Prop} {S : List Nd} (h : OwnP w g X S) : NdsAt w (some ⟨g, 0, none⟩) S := fun i hi => by
  obtain ⟨_, F, hF, hN⟩ := h
  obtain ⟨kb, kc, ⟨e0, e1, e2, e3, e4, e5, e6, e7, e8, e8b, G, hG, e9⟩, _⟩ := hN i hi
  refine ⟨g, 0, rfl, ?_⟩
  rw [Nat.zero_add]
  refine ⟨?_, ?_, ?_, ?_, ?_, ⟨some ⟨kb, 0, none⟩, kc, ?_, fun j hj => ⟨kb, 0, rfl, ?_⟩⟩, ?_, ?_⟩
  · rw [hF.cell (by omega), e0]
  · rw [hF.cell (by omega), e1]
  · rw [hF.cell (by omega), e2]
  · rw [hF.cell (by omega), e3]
  · rw [hF.cell (by omega), e4]
  · rw [hF.cell (by omega), e5]
  · rw [Nat.zero_add, hG.cell (by omega), e9 j hj]
  · rw [hF.cell (by omega), e6]
  · rw [hF.cell (by omega), e7]
theorem OwnP.st {w : World} {g : Nat} {X : Nat → Prop} {S : List Nd} (h : OwnP w g X S) : St X (fun V => NdsAt V (some ⟨g, 0, none⟩) S) w := fun w' ho => (h.off ho).nds
theorem OwnP.mark {w : World} {g : Nat} {X : Nat → Prop} {S : List Nd} {k : Nat} (h : OwnP w g X S) (hk : k < S.length) (n : Int) : OwnP (w.setCell ⟨g, k * 8 + 3, none⟩ (.int .i64 n)) g X (S.set k { nd S k with m := n }) := by
  obtain ⟨hg, F, hF, hN⟩ := h
  refine ⟨hg, _, by rw [List.length_set]; exact hF.set (k * 8 + 3) (.int .i64 n), fun i hi => ?_⟩
  rw [List.length_set] at hi
  obtain ⟨kb, kc, ⟨e0, e1, e2, e3, e4, e5, e6, e7, e8, e8b, G, hG, e9⟩, hkb, hx⟩ := hN i hi
  have hG2 := hG.setOther (a := ⟨g, k * 8 + 3, none⟩) (by simp; omega) (.int .i64 n)
  refine ⟨kb, kc, ?_, hkb, hx⟩
  rw [nd_set S k i _ hk]
  by_cases e : i = k
  · subst e
    rw [if_pos rfl]
    refine ⟨?_, ?_, ?_, ?_, ?_, ?_, ?_, ?_, e8, e8b, G, hG2, e9⟩
    all_goals dsimp only
    · rw [if_neg (by omega), e0]
    · rw [if_neg (by omega), e1]
    · rw [if_neg (by omega), e2]
    · rw [if_pos rfl]
    · rw [if_neg (by omega), e4]
    · rw [if_neg (by omega), e5]
    · rw [if_neg (by omega), e6]
    · rw [if_neg (by omega), e7]
  · rw [if_neg e]
    refine ⟨?_, ?_, ?_, ?_, ?_, ?_, ?_, ?_, e8, e8b, G, hG2, e9⟩
    all_goals
      dsimp only
      rw [if_neg (by omega)]
      assumption

/-- The row of what was told. -/
def tOf (A : RA) : Nat := (A.a3.getD ⟨0, 0, none⟩).block
abbrev toldF (R : Rl) : Nat → Value := fun j => .int .i64 (R.t.getD j 0)
/-- What CopyRealm answers: hands in row h, the store in row g, what was told in a row too. -/
structure CI (w : World) (R : Rl) (h g : Nat) (A : RA) (V : World) : Prop where
  bel : Below w.heap.size w V
  h0 : w.heap.size ≤ h
  t0 : w.heap.size ≤ tOf A
  th : tOf A ≠ h
  a0 : A.a0 = some ⟨g, 0, none⟩
  a1 : A.a1 = some ⟨h, 0, none⟩
  a3 : A.a3 = some ⟨tOf A, 0, none⟩
  c3 : A.c3 = R.t.length
  row : V.rowIs h 39 (R.hs.length * 2) (hcF R.hs)
  tr : V.rowIs (tOf A) 3 R.t.length (toldF R)
  own : OwnP V g (fun b => b < w.heap.size ∨ b = h ∨ b = tOf A) R.s
  cls : St (fun b => b < w.heap.size ∨ b = h ∨ b = tOf A ∨ b = g) (fun V => ClsAt V A.a2 R.i) V
/-- What a deed finds: the realm's box d, hands in row h, the store in row g. -/
structure WI (w : World) (R : Rl) (d h g : Nat) (A : RA) (V : World) : Prop where
  bel : Below w.heap.size w V
  d0 : w.heap.size ≤ d
  h0 : w.heap.size ≤ h
  t0 : w.heap.size ≤ tOf A
  dh : h ≠ d
  th : tOf A ≠ h
  td : tOf A ≠ d
  a0 : A.a0 = some ⟨g, 0, none⟩
  a1 : A.a1 = some ⟨h, 0, none⟩
  a3 : A.a3 = some ⟨tOf A, 0, none⟩
  c3 : A.c3 = R.t.length
  box : V.heap[d]? = some (bxR A R)
  row : V.rowIs h 39 (R.hs.length * 2) (hcF R.hs)
  tr : V.rowIs (tOf A) 3 R.t.length (toldF R)
  own : OwnP V g (fun b => b < w.heap.size ∨ b = d ∨ b = h ∨ b = tOf A) R.s
  cls : St (fun b => b < w.heap.size ∨ b = d ∨ b = h ∨ b = tOf A ∨ b = g) (fun V => ClsAt V A.a2 R.i) V
theorem CI.wi {w V : World} {R : Rl} {h g : Nat} {A : RA} (I : CI w R h g A V) : WI w R V.heap.size h g A (V.alloc (.cells #[.slice A.a0 R.s.length A.c0, .slice A.a1 R.hs.length A.c1, .slice A.a2 R.i.length A.c2, .slice A.a3 R.t.length A.c3] 31)) := by
  have hb := one_belowS V (.cells #[.slice A.a0 R.s.length A.c0, .slice A.a1 R.hs.length A.c1, .slice A.a2 R.i.length A.c2, .slice A.a3 R.t.length A.c3] 31)
  have hl := I.row.lt
  have tl := I.tr.lt
  exact ⟨I.bel.trans (hb.mono I.bel.size), I.bel.size, I.h0, I.t0, by omega, I.th, by omega, I.a0, I.a1, I.a3, I.c3, box4_new _ _ _ _ _ _, I.row.of_block (hb.block h hl), I.tr.of_block (hb.block _ tl), (I.own.grow (fun b hb2 hy => by omega)).off (OffX.of_below hb), I.cls.grow (OffX.of_below hb) (fun b hb2 hy => by omega)⟩
theorem WI.below {w V V' : World} {R : Rl} {d h g : Nat} {A : RA} (I : WI w R d h g A V) (hb : Below V.heap.size V V') : WI w R d h g A V' :=
  ⟨I.bel.trans (hb.mono I.bel.size), I.d0, I.h0, I.t0, I.dh, I.th, I.td, I.a0, I.a1, I.a3, I.c3, keepB I.box hb, I.row.of_block (hb.block h I.row.lt), I.tr.of_block (hb.block _ I.tr.lt), I.own.off (OffX.of_below hb), I.cls.off (OffX.of_below hb)⟩
theorem WI.nds {w V : World} {R : Rl} {d h g : Nat} {A : RA} (I : WI w R d h g A V) : NdsAt V (some ⟨g, 0, none⟩) R.s := I.own.nds
theorem WI.gs {w V : World} {R : Rl} {d h g : Nat} {A : RA} (I : WI w R d h g A V) : w.heap.size ≤ g ∧ g ≠ d ∧ h ≠ g ∧ tOf A ≠ g := by
  have := I.own.1
  omega
/-- The sizes of V, for a store made behind it. -/
theorem WI.base {w V : World} {R : Rl} {d h g : Nat} {A : RA} (I : WI w R d h g A V) : w.heap.size ≤ V.heap.size ∧ d < V.heap.size ∧ h < V.heap.size ∧ tOf A < V.heap.size := ⟨I.bel.size, box_lt I.box, I.row.lt, I.tr.lt⟩
/-- Hand k. -/
theorem WI.hand {w V : World} {R : Rl} {d h g : Nat} {A : RA} (I : WI w R d h g A V) {k : Nat} (hk : k < R.hs.length) : V.cell? ⟨h, k * 2, none⟩ = some (.int .i64 (hd R k).1) ∧ V.cell? ⟨h, k * 2 + 1, none⟩ = some (.int .i64 (hd R k).2) := by
  have e : hd R (k : Int) = R.hs.getD k (0, 0) := by unfold hd; rw [Int.toNat_natCast]
  rw [e]
  exact ⟨by rw [I.row.cell (by omega), hcF_0], by rw [I.row.cell (by omega), hcF_1]⟩
/-- What a deed leaves: a realm in memory of its own. -/
structure RlF (B d : Nat) (V : World) (A : RA) (R : Rl) : Prop where
  a3 : A.a3 = some ⟨tOf A, 0, none⟩
  c3 : A.c3 = R.t.length
  t0 : B ≤ tOf A
  td : tOf A ≠ d
  tr : V.rowIs (tOf A) 3 R.t.length (toldF R)
  st : St (fun b => b < B ∨ b = d ∨ b = tOf A) (fun V => NdsAt V A.a0 R.s ∧ HandsAt V A.a1 R.hs ∧ ClsAt V A.a2 R.i) V
theorem RlF.at {B d : Nat} {V : World} {A : RA} {R : Rl} (h : RlF B d V A R) : RlAt V A R := ⟨h.st.at.1, h.st.at.2.1, h.st.at.2.2, by rw [h.a3]; exact ints_row h.tr⟩
theorem RlF.off {B d : Nat} {V V' : World} {A : RA} {R : Rl} (h : RlF B d V A R) (ho : OffX (fun b => b < B ∨ b = d) V V') : RlF B d V' A R :=
  ⟨h.a3, h.c3, h.t0, h.td, h.tr.of_block (ho.block _ h.tr.lt (by have := h.t0; have := h.td; omega)), h.st.off (ho.mono (fun b hb => by omega))⟩
theorem RlF.below {B d : Nat} {V V' : World} {A : RA} {R : Rl} (h : RlF B d V A R) (hb : Below V.heap.size V V') : RlF B d V' A R := h.off (OffX.of_below hb)
end Go.Proofs.YtgjfmepbphfjoaaGreat
