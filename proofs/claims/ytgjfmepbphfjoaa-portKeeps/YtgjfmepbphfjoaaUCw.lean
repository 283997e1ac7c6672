/-
  CopyGraph: a graph in new memory.
-/
import Derived.Test.YtgjfmepbphfjoaaUBoOwBk
import Derived.Test.YtgjfmepbphfjoaaUBe
import Derived.Deep.RegionHeld3
namespace Go.Proofs.Ytgjfmepbphfjoaa
open Go.RowKit Go.ChangeShapes Go.WideShapes
set_option linter.unusedVariables false

structure ECl where
  n : Int
  ka : Option Addr
  kl : Nat
  kc : Nat
def cvCl (x : ECl) : Nat → Value
  | 0 => .int .i64 x.n
  | _ => .slice x.ka x.kl x.kc
theorem makeCl (n : Nat) (hn : n ≤ 100000) (w : World) : (Instr.makeSlice 23 (.int .i64 (n : Int)) (.int .i64 (n : Int))).run Try.prog w = .ok (.slice (some ⟨w.heap.size, 0, none⟩) n n) (w.alloc (.cells (madeCells #[.int .i64 0, .slice none 0 0] (n * 2)) 62)) := by
  have hz : (Try.prog.info? 62).map (fun i => (i.zero, i.size, i.bytes)) = some (some (.agg #[.int .i64 0, .slice none 0 0]), 2, 32) := by kernel_rfl
  obtain ⟨i, hi, hz0, hz1, hz2⟩ := info_parts hz
  have h := run_make (P := Try.prog) w 23 62 i _ Try.underlying23 hi hz0 .i64 .i64 n n (by omega) (by omega) (by rw [hz2]; omega) (by omega)
  rw [hz1] at h
  simp only [Int.toNat_natCast] at h
  exact h
theorem EachI.putCl {w : World} {g n k : Nat} {F : Nat → Value} (h : w.rowIs g 62 (n * 2) F) (x : ECl) : ∃ F', ((w.setCell ⟨g, k * 2, none⟩ (.int .i64 x.n)).setCell ⟨g, k * 2 + 1, none⟩ (.slice x.ka x.kl x.kc)).rowIs g 62 (n * 2) F' ∧ (∀ j, j < 2 → F' (k * 2 + j) = cvCl x j) ∧ ∀ i, i < k → ∀ j, j < 2 → F' (i * 2 + j) = F (i * 2 + j) := by
  refine ⟨_, (h.set _ _).set _ _, fun j hj => ?_, fun i hi j hj => ?_⟩
  · rcases (by omega : j = 0 ∨ j = 1) with rfl | rfl
    · rw [if_neg (by omega), if_pos (by omega)]; rfl
    · rw [if_pos rfl]; rfl
  · rw [if_neg (by omega), if_neg (by omega)]

set_option maxRecDepth 100000 in
set_option maxHeartbeats 2000000 in
theorem eachCl (K : Nat) (eg : ∀ args w, (callFunc K args).run Try.prog w = .ok (.enter K args) w) (a : Option Addr) (c n : Nat) (S : Nat → ECl) (R : Nat → ECl → Nat → Nat → World → Prop) (w : World) (hn : n ≤ 100000)
    (hs : ∀ i, i < n → ∃ b o, a = some ⟨b, o, none⟩ ∧ w.cell? ⟨b, o + i * 2, none⟩ = some (.int .i64 (S i).n) ∧ w.cell? ⟨b, o + i * 2 + 1, none⟩ = some (.slice (S i).ka (S i).kl (S i).kc))
    (hK : ∀ i, i < n → ∀ W, Below w.heap.size w W → Calls Try.prog K #[.agg #[.int .i64 (S i).n, .slice (S i).ka (S i).kl (S i).kc]] W fun e W' => ∃ y : ECl, e = .returned (.agg #[.int .i64 y.n, .slice y.ka y.kl y.kc]) ∧ Below W.heap.size W W' ∧ St (fun b => b < W.heap.size ∨ W'.heap.size ≤ b) (R i y W.heap.size W'.heap.size) W') :
    Calls Try.prog 62 #[.slice a n c, .func (.func K) #[] #[]] w fun e w' => e = .returned (.slice (some ⟨w.heap.size, 0, none⟩) n n) ∧ Below w.heap.size w w' ∧ EachI cvCl 62 2 n R w.heap.size n w' := by
  have HS : Hid _ := hs
  have HK : Hid _ := hK
  clear hs hK
  have hmk := makeCl n hn
  go_enter Try.func62, Try.ntmps62
  go_wp2
  go_loopg [13] n (fun m s13 wr => ∃ k : Nat, k ≤ n ∧ n - k ≤ m ∧ s13 = .int .i64 k ∧ Below w.heap.size w wr ∧ Hid (EachI cvCl 62 2 n R w.heap.size k wr))
  case atStart => exact ⟨0, by omega, by omega, rfl, one_belowS _ _, EachI.zero w _ 62 2 n R (S 0)⟩
  case round =>
    obtain ⟨k, hk, hg, rfl, hb, O⟩ := hrel
    by_cases hlt : k < n
    · have hlt2 : (k : Int) < (n : Int) := by omega
      obtain ⟨b, o, rfl, c0, c1⟩ := HS.out k hlt
      replace c0 := keepC c0 hb
      replace c1 := keepC c1 hb
      have hbw : b < wr.heap.size := World.block_lt_of_cell? _ _ c0
      obtain ⟨hgl, hfz, F, hF⟩ := O.out.facts
      have D : Hid (∀ W, Below wr.heap.size wr W → Calls _ _ _ _ _) := fun W hW => HK.out k hlt W (hb.trans (hW.mono hb.size))
      generalize S k = x at *
      obtain ⟨xn, xka, xkl, xkc⟩ := x
      dsimp only at c0 c1 D
      go_wp2_with (go_at_fn K; refine (D.out _ ?nd).mono ?_; (case nd => exact one_belowS _ _); rintro e w3 ⟨⟨yn, yka, ykl, ykc⟩, rfl, hb3, h3⟩; have HR : Hid _ := h3; clear h3; have B3 : Hid (Below wr.heap.size wr w3) := (one_belowS _ _).trans (hb3.mono (by simp)); have s3 : Hid (wr.heap.size ≤ w3.heap.size) := B3.out.size; have SZ : Hid _ := hb3.size; clear hb3; have q0 := (B3.out.cell (by exact hgl)).trans (hF (k * 2) (by omega)); have q1 := (B3.out.cell (by exact hgl)).trans (hF (k * 2 + 1) (by omega)); have hfz3 := fun o => (B3.out.frozen (by exact hgl)).trans (hfz o); have hg3 : w.heap.size < w3.heap.size := Nat.lt_of_lt_of_le hgl s3.out)
      go_roundg (n - (k + 1))
      case measure => omega
      case rel =>
        refine ⟨k + 1, by omega, by omega, by go_num, (((hb.trans (B3.out.mono hb.size)).setCell (by simp) _).setCell (by simp) _), EachI.step O.out hlt B3.out (by simp) ?_ HR.out rfl (((OffX.refl (fun b => b = w.heap.size) _).trans (OffX.set (X := fun b => b = w.heap.size) _ _ rfl)).trans (OffX.set (X := fun b => b = w.heap.size) _ _ rfl)) (fun F hF => EachI.putCl hF ⟨yn, yka, ykl, ykc⟩)⟩
        have := SZ.out; simpa using this
    · have : k = n := by omega
      subst this
      go_wp2
      go_ret
      exact ⟨rfl, hb, O.out⟩

/-- A cell as it comes out of CopyGraph. -/
def RCl (G : List Cl) (i : Nat) (y : ECl) (lo hi : Nat) (V : World) : Prop := y.n = (cl G i).n ∧ y.kl = (cl G i).ks.length ∧ IntsAt V y.ka (cl G i).ks
theorem cls_each {w : World} {g : Nat} {G : List Cl} (h : EachI cvCl 62 2 G.length (RCl G) g G.length w) : ClsAt w (some ⟨g, 0, none⟩) G := fun i hi => by
  obtain ⟨v, _, _, F, hF, hv⟩ := h
  obtain ⟨h1, _, _, _, _, h6⟩ := hv i hi
  obtain ⟨e0, e1, hI⟩ := h6.at
  refine ⟨g, 0, rfl, ?_⟩
  rw [Nat.zero_add]
  refine ⟨(hF.cell (by omega)).trans ?_, (v i).ka, (v i).kc, (hF.cell (by omega)).trans ?_, hI⟩
  · rw [← e0]
    exact congrArg some (h1 0 (by omega))
  · rw [← e1]
    exact congrArg some (h1 1 (by omega))

set_option maxRecDepth 100000 in
set_option maxHeartbeats 2000000 in
theorem ccell_any (n : Int) (ka : Option Addr) (kc : Nat) (ks : List Int) (w : World) (hk : ks.length ≤ 1000) (hks : IntsAt w ka ks) :
    Calls Try.prog 63 #[.agg #[.int .i64 n, .slice ka ks.length kc]] w fun e w' => ∃ g, e = .returned (.agg #[.int .i64 n, .slice (some ⟨g, 0, none⟩) ks.length ks.length]) ∧ Below w.heap.size w w' ∧ w.heap.size ≤ g ∧ w'.rowIs g 3 ks.length (fun j => .int .i64 (ks.getD j 0)) := by
  have D : Hid (∀ W, Below w.heap.size w W → Calls _ _ _ _ _) := fun W hW => copyKids_any ka kc ks W (by omega) (hks.below hW)
  clear hks hk
  obtain ⟨l, hl⟩ : ∃ l, ks.length = l := ⟨_, rfl⟩
  rw [hl] at D ⊢
  clear hl
  go_enter Try.func63, Try.ntmps63
  go_wp2_with fail
  obtain ⟨V, hV⟩ : ∃ V, (w.alloc (.cells #[.int .i64 n, .slice ka l kc] 62)).alloc (.cells #[.int .i64 0, .slice none 0 0] 62) = V := ⟨_, rfl⟩
  have v0 : V.cell? ⟨w.heap.size, 0, none⟩ = some (.int .i64 n) := by rw [← hV]; exact alloc_cell1 _ _ _ 0 _ rfl
  have v1 : V.cell? ⟨w.heap.size, 1, none⟩ = some (.slice ka l kc) := by rw [← hV]; exact alloc_cell1 _ _ _ 1 _ rfl
  have z0 : V.cell? ⟨w.heap.size + 1, 0, none⟩ = some (.int .i64 0) := by rw [← hV]; exact alloc_cell2 _ _ _ 0 _ rfl
  have z1 : V.cell? ⟨w.heap.size + 1, 1, none⟩ = some (.slice none 0 0) := by rw [← hV]; exact alloc_cell2 _ _ _ 1 _ rfl
  have zf : ∀ o, V.frozen? ⟨w.heap.size + 1, o, none⟩ = false := fun o => by rw [← hV]; exact alloc_fz2 _ _ _ _ _
  have BV : Hid (Below w.heap.size w V) := by rw [← hV]; exact two_belowS _ _ _
  have sV : w.heap.size + 1 < V.heap.size := World.block_lt_of_cell? _ _ z0
  have sV0 : w.heap.size < V.heap.size := World.block_lt_of_cell? _ _ v0
  rw [hV]
  clear hV
  go_region_held3 (fun w'' => w''.cell? ⟨w.heap.size, 0, none⟩ = some (.int .i64 n) ∧ w''.cell? ⟨w.heap.size, 1, none⟩ = some (.slice ka l kc)) (go_keep) (first | (go_at_call 64; refine Calls.mono (D.out _ ?nd) ?_; (case nd => exact BV.out.drew); rintro e w3 ⟨rfl, hb3, hrow⟩; have HV3 : Hid (Below V.heap.size V w3) := (Below.refl V.heap.size V).drew.trans hb3; have HB3 : Hid (Below w.heap.size w w3) := BV.out.trans (HV3.out.mono BV.out.size); have HR : Hid (w3.rowIs V.heap.size 3 l (fun j => .int .i64 (ks.getD j 0))) := hrow; have u0 := keepC v0 HV3.out; have u1 := keepC v1 HV3.out; have q0 := keepC z0 HV3.out; have q1 := keepC z1 HV3.out; have fz := fun o => (HV3.out.frozen (show (⟨w.heap.size + 1, o, none⟩ : Addr).block < V.heap.size from sV)).trans (zf o); have s3 : V.heap.size < w3.heap.size := World.rowIs.lt hrow; clear hb3 hrow))
  go_wp2
  refine bodyPost_ret (v := .agg #[.int .i64 n, .slice (some ⟨V.heap.size, 0, none⟩) l l]) (by simp [results, Try.results63, go_sem, q0, q1]) rfl ⟨V.heap.size, rfl, (HB3.out.setCell (by simp) _).setCell (by simp) _, BV.out.size, (HR.out.setOther (by simp; omega) _).setOther (by simp; omega) _⟩
theorem copyEachCl (a : Option Addr) (c : Nat) (G : List Cl) (w : World) (hN : G.length ≤ 1000) (hK : ∀ i, i < G.length → (cl G i).ks.length ≤ 1000) (hG : ClsAt w a G) :
    Calls Try.prog 62 #[.slice a G.length c, .func (.func 63) #[] #[]] w fun e w' => e = .returned (.slice (some ⟨w.heap.size, 0, none⟩) G.length G.length) ∧ Below w.heap.size w w' ∧ EachI cvCl 62 2 G.length (RCl G) w.heap.size G.length w' := by
  obtain ⟨f, hf⟩ := Classical.skolem.1 (fun i => show ∃ x : Option Addr × Nat, i < G.length → (∃ b o, a = some ⟨b, o, none⟩ ∧ w.cell? ⟨b, o + i * 2, none⟩ = some (.int .i64 (cl G i).n) ∧ w.cell? ⟨b, o + i * 2 + 1, none⟩ = some (.slice x.1 (cl G i).ks.length x.2)) ∧ IntsAt w x.1 (cl G i).ks by
    by_cases hi : i < G.length
    · obtain ⟨b, o, e, c0, ka, kc, c1, hks⟩ := hG i hi
      exact ⟨(ka, kc), fun _ => ⟨⟨b, o, e, c0, c1⟩, hks⟩⟩
    · exact ⟨(none, 0), fun h => absurd h hi⟩)
  refine eachCl 63 (enters_of Try.func63 (by kernel_rfl) rfl) a c G.length (fun i => ⟨(cl G i).n, (f i).1, (cl G i).ks.length, (f i).2⟩) (RCl G) w (by omega) (fun i hi => (hf i hi).1) (fun i hi W hW => ?_)
  refine (ccell_any (cl G i).n (f i).1 (f i).2 (cl G i).ks W (hK i hi) ((hf i hi).2.below hW)).mono ?_
  rintro e w' ⟨g, rfl, hb, hg, hr⟩
  refine ⟨⟨(cl G i).n, some ⟨g, 0, none⟩, (cl G i).ks.length, (cl G i).ks.length⟩, rfl, hb, fun w2 ho => ⟨rfl, rfl, ints_row (hr.of_block (ho.block g hr.lt (fun hx => ?_)))⟩⟩
  have := hr.lt
  rcases hx with hx | hx <;> omega

set_option maxHeartbeats 1000000 in
theorem cgraph_any (a : Option Addr) (c : Nat) (G : List Cl) (w : World) (hN : G.length ≤ 1000) (hK : ∀ i, i < G.length → (cl G i).ks.length ≤ 1000) (hG : ClsAt w a G) :
    Calls Try.prog 52 #[.agg #[.slice a G.length c]] w fun e w' => ∃ g, e = .returned (.agg #[.slice (some ⟨g, 0, none⟩) G.length G.length]) ∧ Below w.heap.size w w' ∧ w.heap.size ≤ g ∧ St (fun b => b < w.heap.size ∨ w'.heap.size ≤ b) (fun V => ClsAt V (some ⟨g, 0, none⟩) G) w' := by
  have D : Hid (∀ o1 o2, Calls _ _ _ _ _) := fun o1 o2 => copyEachCl a c G ((w.alloc o1).alloc o2) hN hK (hG.below (two_belowS _ _ _))
  have FN : Hid (∀ V : World, EachI cvCl 62 2 G.length (RCl G) (w.heap.size + 1 + 1) G.length V → St (fun b => b < w.heap.size ∨ V.heap.size ≤ b) (fun V => ClsAt V (some ⟨w.heap.size + 1 + 1, 0, none⟩) G) V) := fun V h => (h.st (by omega) (Nat.le_refl _)).imp (fun V h => cls_each h)
  clear hG hK
  simp only [World.size_alloc] at D
  generalize G.length = n at *
  go_enter Try.func52, Try.ntmps52
  go_wp2_with (go_at_call 62; refine (D.out _ _).mono ?_; rintro e w3 ⟨rfl, hb3, h3⟩; have H3 : Hid (EachI cvCl 62 2 n (RCl G) (w.heap.size + 1 + 1) n w3) := h3; clear h3; have y1 : w3.cell? ⟨w.heap.size + 1, 0, none⟩ = some (.slice none 0 0) := (hb3.cell (by simp)).trans (by go_simp); have y2 : ∀ o, w3.frozen? ⟨w.heap.size + 1, o, none⟩ = false := fun o => (hb3.frozen (by simp)).trans (by go_simp); have B3 : Hid (Below w.heap.size w w3) := (two_belowS _ _ _).trans (hb3.mono (by omega)); clear hb3)
  refine bodyPost_ret (v := .agg #[.slice (some ⟨w.heap.size + 1 + 1, 0, none⟩) n n]) (by simp [results, Try.results52, go_sem, y1]) rfl ⟨w.heap.size + 1 + 1, rfl, B3.out.setCell (by simp) _, by omega, FN.out _ (H3.out.set (by omega) _)⟩
end Go.Proofs.Ytgjfmepbphfjoaa
