/-
  The contract of above: what stands above some nodes, each once.
-/
import Derived.Test.YtcohimljgjlkdabVc
namespace Go.Proofs.Ytcohimljgjlkdab
open Go.RowKit

theorem parent_any (x : Nd) (k : Value) (w : World) :
    Calls Try.prog 99 #[.agg #[.bool x.u, .int .i64 x.n, .int .i64 x.t, .int .i64 x.m, .int .i64 x.p, k, .int .i64 x.h, .bool x.c]] w fun e w' => e = .returned (.int .i64 x.p) ∧ Below w.heap.size w w' := by
  go_enter Try.func99, Try.ntmps99
  go_wp2
  go_ret
  exact ⟨rfl, (Below.refl _ _).alloc (Nat.le_refl _) _⟩

theorem infoBool : (Try.prog.info? 4).map (fun i => (i.zero, i.size, i.bytes)) = some (some (.bool false), 1, 1) := by kernel_rfl
theorem makeBools (n : Nat) (hn : n ≤ 24) (w : World) : (Instr.makeSlice 98 (.int .i64 (n : Int)) (.int .i64 (n : Int))).run Try.prog w = .ok (.slice (some ⟨w.heap.size, 0, none⟩) n n) (w.alloc (.cells (madeCells #[.bool false] n) 4)) :=
  run_make_row' (P := Try.prog) 98 4 (.bool false) 1 Try.underlying98 infoBool rfl .i64 .i64 n (by omega) (by omega) w

theorem climb_above (W0 W : World) (a : Option Addr) (c : Nat) (S : List Nd) (near : Bool) (bs bf bn gs : Nat) (hN : S.length ≤ 24) (hS : NdsAt W0 a S) (hW : Below W0.heap.size W0 W) (h1 : W0.heap.size ≤ bf) (h2 : W0.heap.size ≤ gs)
    (hbs : bs < W.heap.size) (hbf : bf < W.heap.size) (hgs : gs < W.heap.size) (hbn : bn < W.heap.size) (n1 : bs ≠ bf) (n2 : bs ≠ gs) (n3 : bn ≠ bf) (n4 : bn ≠ gs) (n5 : bf ≠ gs)
    (cs : W.cell? ⟨bs, 0, none⟩ = some (.slice (some ⟨gs, 0, none⟩) S.length S.length)) (cn : W.cell? ⟨bn, 0, none⟩ = some (.bool near)) (st : (Nat → Bool) × List Int) (place : Int) (w : World) (h : AbvI W bf gs S.length st w) :
    Calls Try.prog 87 #[.agg #[.slice a S.length c], .int .i64 place, .func (.func 99) #[] #[], .func (.func 100) #[] #[.pointer (some ⟨bs, 0, none⟩), .pointer (some ⟨bf, 0, none⟩), .pointer (some ⟨bn, 0, none⟩)]] w fun e w' => e = .returned (.tuple #[]) ∧ AbvI W bf gs S.length (climbA S near st place) w' := by
  refine (climb_any a c S w place 99 100 #[.pointer (some ⟨bs, 0, none⟩), .pointer (some ⟨bf, 0, none⟩), .pointer (some ⟨bn, 0, none⟩)] Nd.p (aboveStep near) (AbvI W bf gs S.length) (fun k => k = bf ∨ k = gs ∨ W.heap.size ≤ k) st (by omega)
    (fun st w1 h => hS.below (hW.trans (h.1.below (B := W0.heap.size) hW.size (fun k hk => by rcases hk with hk | hk <;> omega))))
    (fun st w1 w2 h hb => h.below hb)
    (enters_of Try.func99 (by kernel_rfl) rfl) (enters_of Try.func100 (by kernel_rfl) rfl)
    (fun x k w1 => parent_any x k w1)
    (fun st x w1 h _ hx => ?_) h).mono ?_
  · have hq : 0 ≤ x ∧ x ≤ (S.length : Int) - 1 := of_decide_eq_true hx
    obtain ⟨j, rfl⟩ : ∃ j : Nat, x = (j : Int) := ⟨x.toNat, by omega⟩
    refine (aboveVisit_any W bs bf bn gs S.length near st j w1 (by omega) (by omega) h hbs hbf hgs hbn n1 n2 n3 n4 n5 cs cn).mono ?_
    rintro e w2 ⟨rfl, g1, g2, g3⟩
    exact ⟨rfl, g1, g2, fun k hk => g3 k _ _ hk (by decide) (by decide) (by decide)⟩
  · rintro e w' ⟨rfl, g1, _⟩
    exact ⟨rfl, g1⟩

theorem five_below (w : World) (o1 o2 o3 o4 o5 : Obj) : Below w.heap.size w (((((w.alloc o1).alloc o2).alloc o3).alloc o4).alloc o5) := (((three_below w o1 o2 o3).alloc (by simp; omega) _).alloc (by simp; omega) _)

set_option maxHeartbeats 2000000 in
theorem above_any (a : Option Addr) (c : Nat) (S : List Nd) (pa : Option Addr) (pc : Nat) (places : List Int) (near : Bool) (w : World) (hN : S.length ≤ 24) (hS : NdsAt w a S) (hL : places.length ≤ 1000000) (hP : IntsAt w pa places) :
    Calls Try.prog 81 #[.agg #[.slice a S.length c], .slice pa places.length pc, .bool near] w fun e w' => ∃ v, e = .returned v ∧ Below w.heap.size w w' ∧ w'.ownsRow w.heap.size 3 1 v (aboveF S near places).length ((aboveF S near places).map (Value.int .i64)) ∧ (aboveF S near places).length ≤ S.length := by
  have hmk := makeBools S.length hN
  have HS : Hid (NdsAt w a S) := hS
  have HP : Hid (IntsAt w pa places) := hP
  have HT : Hid (∀ k, k < places.length → aboveSt S near (places.take (k + 1)) = climbA S near (aboveSt S near (places.take k)) (places.getD k 0)) := fun k hk => aboveSt_take S near places k hk
  have CL : Hid (∀ W bs bf bn gs, _) := fun W bs bf bn gs => fun (hW : Below w.heap.size w W) h1 h2 hbs hbf hgs hbn n1 n2 n3 n4 n5 cs cn st place W1 h => climb_above w W a c S near bs bf bn gs hN hS hW h1 h2 hbs hbf hgs hbn n1 n2 n3 n4 n5 cs cn st place W1 h
  have H0 : Hid (aboveSt S near (places.take 0) = (fun _ => false, [])) := rfl
  have HE : Hid (aboveF S near places = (aboveSt S near (places.take places.length)).2) := by show _ = _; rw [List.take_length]; rfl
  generalize aboveF S near places = R at *
  clear hS hP
  generalize hn : S.length = n at *
  have HN : Hid _ := hn
  clear hn
  generalize hl : places.length = L at *
  have HL : Hid _ := hl
  clear hl
  go_enter Try.func81, Try.ntmps81
  go_wp2
  obtain ⟨W, hW⟩ : ∃ W, W = (((((w.alloc (.cells #[.slice a n c] 24)).alloc (.cells #[.bool near] 4)).alloc (.cells (madeCells #[.bool false] n) 4)).alloc (.cells #[.slice (some ⟨w.heap.size + 1 + 1, 0, none⟩) n n] 98)).alloc (.cells #[.slice none 0 0] 32)) := ⟨_, rfl⟩
  rw [← hW]
  have hb : Below w.heap.size w W := by rw [hW]; exact five_below _ _ _ _ _ _
  have hz : W.heap.size = w.heap.size + 1 + 1 + 1 + 1 + 1 := by rw [hW]; simp
  have c0 : W.cell? ⟨w.heap.size, 0, none⟩ = some (.slice a n c) := by rw [hW]; go_simp
  have cn : W.cell? ⟨w.heap.size + 1, 0, none⟩ = some (.bool near) := by rw [hW]; go_simp
  have cs : W.cell? ⟨w.heap.size + 1 + 1 + 1, 0, none⟩ = some (.slice (some ⟨w.heap.size + 1 + 1, 0, none⟩) n n) := by rw [hW]; go_simp
  have hI0 : AbvI W (w.heap.size + 1 + 1 + 1 + 1) (w.heap.size + 1 + 1) n (fun _ => false, []) W := by
    refine ⟨Off.refl _ _, ?_, ⟨by simp, fun x hx => by cases hx⟩, .slice none 0 0, ?_, World.ownsRow_nil _ _ _ _⟩
    · rw [hW]
      have h0 := World.rowIs_made ((w.alloc (.cells #[.slice a n c] 24)).alloc (.cells #[.bool near] 4)) (.bool false) n 4
      have h1 : Below (w.heap.size + 1 + 1 + 1) (((w.alloc (.cells #[.slice a n c] 24)).alloc (.cells #[.bool near] 4)).alloc (.cells (madeCells #[.bool false] n) 4)) (((((w.alloc (.cells #[.slice a n c] 24)).alloc (.cells #[.bool near] 4)).alloc (.cells (madeCells #[.bool false] n) 4)).alloc (.cells #[.slice (some ⟨w.heap.size + 1 + 1, 0, none⟩) n n] 98)).alloc (.cells #[.slice none 0 0] 32)) := ((Below.refl _ _).alloc (by simp) _).alloc (by first | (simp; done) | (simp; omega)) _
      simp only [World.size_alloc] at h0
      exact h0.of_block (h1.block _ (by omega))
    · rw [hW]
      have := heap_alloc_new ((((w.alloc (.cells #[.slice a n c] 24)).alloc (.cells #[.bool near] 4)).alloc (.cells (madeCells #[.bool false] n) 4)).alloc (.cells #[.slice (some ⟨w.heap.size + 1 + 1, 0, none⟩) n n] 98)) (.cells #[.slice none 0 0] 32)
      simpa using this
  have HI0 : Hid _ := hI0
  have HBW : Hid (Below w.heap.size w W) := hb
  have CL2 : Hid _ := CL.out W (w.heap.size + 1 + 1 + 1) (w.heap.size + 1 + 1 + 1 + 1) (w.heap.size + 1) (w.heap.size + 1 + 1) hb (by omega) (by omega) (by omega) (by omega) (by omega) (by omega) (by omega) (by omega) (by omega) (by omega) (by omega) cs cn
  have C0 : Hid (∀ st w1, AbvI W (w.heap.size + 1 + 1 + 1 + 1) (w.heap.size + 1 + 1) n st w1 → w1.cell? ⟨w.heap.size, 0, none⟩ = some (.slice a n c) ∧ Below w.heap.size w w1 ∧ w.heap.size < w1.heap.size) := fun st w1 h => ⟨(h.1.cell (p := ⟨w.heap.size, 0, none⟩) (by show w.heap.size < _; omega) (by show ¬ (w.heap.size = w.heap.size + 1 + 1 + 1 + 1 ∨ w.heap.size = w.heap.size + 1 + 1); omega)).trans c0, HBW.out.trans (h.1.below HBW.out.size (fun k hk => by rcases hk with hk | hk <;> omega)), by have := h.1.size; omega⟩
  clear hW hb c0 cn cs hI0 CL
  go_loopg [17] L (fun g1 s17 wr => ∃ k : Nat, k ≤ L ∧ L - k ≤ g1 ∧ s17 = .int .i64 k ∧ Hid (AbvI W (w.heap.size + 1 + 1 + 1 + 1) (w.heap.size + 1 + 1) n (aboveSt S near (places.take k)) wr))
  case atStart => exact ⟨0, by omega, by omega, rfl, by rw [H0.out]; exact HI0⟩
  case round =>
    obtain ⟨k, hk, hg1, rfl, I1⟩ := hrel
    obtain ⟨c0, hb1, hs1⟩ := C0.out _ _ I1.out
    have HB1 : Hid _ := hb1
    by_cases hlt : k < L
    · have hlt2 : (k : Int) < (L : Int) := by omega
      obtain ⟨pb, po, rfl, hp⟩ := (HP.out.below hb1) k (by rw [HL.out]; exact hlt)
      have hpl := World.block_lt_of_cell? _ _ hp
      have hc := CL2.out (aboveSt S near (places.take k)) (places.getD k 0) wr I1.out
      have TK := HT.out k hlt
      rw [← TK] at hc
      have HC : Hid _ := hc
      clear hc TK hb1
      generalize places.getD k 0 = y at *
      go_wp2_with fail
      refine Calls.mono HC.out ?_
      rintro e w2 ⟨rfl, I2⟩
      go_wp2
      go_roundg (L - (k + 1))
      case measure => omega
      case rel => exact ⟨k + 1, by omega, by omega, by go_num, I2⟩
    · have hk' : k = L := by omega
      subst hk'
      obtain ⟨hO, _, _, v, hv, hown⟩ := I1.out
      have cb := box_cell hv
      have OW : Hid (wr.ownsRow w.heap.size 3 1 v R.length (R.map (Value.int .i64))) := by
        rw [HE.out]; exact ownsRow_base hown (by omega)
      have SM : Hid (R.length ≤ n) := by show _ ≤ _; rw [HE.out]; exact I1.out.small
      clear hO hv hown hb1
      go_wp2
      go_ret
      exact ⟨v, rfl, HB1.out, OW.out, SM.out⟩
end Go.Proofs.Ytcohimljgjlkdab
