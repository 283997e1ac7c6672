/-
  Rows of slots; searches among them with any closure; slotsOf's closure.
-/
import Derived.Test.YthlpkdmmkfhleacJLc
import Derived.Test.YthlpkdmmkfhleacJSaSb
import Derived.Laws.AppendOwn
import Derived.Laws.Rows
namespace Go.Proofs.Ythlpkdmmkfhleac
open Go.RowKit

def slt (L : List Slt) (i : Nat) : Slt := L.getD i ⟨0, 0, []⟩

/-- A row of slots, as it reads. -/
def SltsAt (w : World) (a : Option Addr) (L : List Slt) : Prop :=
  ∀ i, i < L.length → ∃ b o, a = some ⟨b, o, none⟩ ∧ w.cell? ⟨b, o + i * 3, none⟩ = some (.int .i64 (slt L i).pl) ∧ w.cell? ⟨b, o + i * 3 + 1, none⟩ = some (.int .i64 (slt L i).num) ∧ ∃ ga gc, w.cell? ⟨b, o + i * 3 + 2, none⟩ = some (.slice ga (slt L i).gv.length gc) ∧ IntsAt w ga (slt L i).gv

theorem SltsAt.below {w w' : World} {a : Option Addr} {L : List Slt} (h : SltsAt w a L) (hb : Below w.heap.size w w') : SltsAt w' a L := fun i hi => by
  obtain ⟨b, o, e, h1, h2, ga, gc, h3, h4⟩ := h i hi
  have hlt : b < w.heap.size := World.block_lt_of_cell? _ _ h1
  exact ⟨b, o, e, (hb.cell (by exact hlt)).trans h1, (hb.cell (by exact hlt)).trans h2, ga, gc, (hb.cell (by exact hlt)).trans h3, h4.below hb⟩

theorem slt_elem {L : List Slt} {i : Nat} (h : i < L.length) : slt L i = L[i] := getD_elem L _ h

/-- What is asked of a function value that tells yes or no of a slot. -/
def TellsS (K : Nat) (caps : Array Value) (p : Slt → Bool) (w : World) : Prop :=
  ∀ (x : Slt) (k : Value) (w1 : World), Below w.heap.size w w1 → Calls Try.prog K (#[.agg #[.int .i64 x.pl, .int .i64 x.num, k]] ++ caps) w1 fun e w2 => e = .returned (.bool (p x)) ∧ Below w1.heap.size w1 w2

set_option maxHeartbeats 800000 in
theorem indexSl_any (K : Nat) (caps : Array Value) (p : Slt → Bool) (a : Option Addr) (c : Nat) (L : List Slt) (w : World) (hbig : L.length ≤ 9223372036854775807) (hL : SltsAt w a L)
    (eg : ∀ args w, (callFunc K args).run Try.prog w = .ok (.enter K args) w) (hf : TellsS K caps p w) :
    Calls Try.prog 107 #[.slice a L.length c, .func (.func K) #[] caps] w fun e w' => ∃ r : Int, e = .returned (.int .i64 r) ∧ Below w.heap.size w w' ∧
      ((r = -1 ∧ ∀ i, i < L.length → p (slt L i) = false) ∨ (∃ k : Nat, k < L.length ∧ r = k ∧ p (slt L k) = true ∧ ∀ i, i < k → p (slt L i) = false)) := by
  have HS : Hid (SltsAt w a L) := hL
  have HF : Hid (TellsS K caps p w) := hf
  clear hL hf
  generalize hn : L.length = n at *
  have HN : Hid _ := hn
  clear hn
  go_enter Try.func107, Try.ntmps107
  go_wp2
  go_loopg [8] n (fun g s8 wr => ∃ k : Nat, k ≤ n ∧ n - k ≤ g ∧ s8 = .int .i64 k ∧ Below w.heap.size w wr ∧ Hid (∀ i, i < k → p (slt L i) = false))
  case atStart => exact ⟨0, by omega, by omega, rfl, Below.refl _ _, fun i hi => by omega⟩
  case round =>
    obtain ⟨k, hk, hg, rfl, hb, A⟩ := hrel
    by_cases hlt : k < n
    · have hlt2 : (k : Int) < (n : Int) := by omega
      obtain ⟨b, o, rfl, c0, c1, ka, kc, c2, _⟩ := (HS.out.below hb) k (by rw [HN.out]; exact hlt)
      have hcall := fun v => HF.out (slt L k) v wr hb
      cases hq : p (slt L k) with
      | true =>
        have HQ : Hid (p (slt L k) = true) := hq
        rw [hq] at hcall
        clear hq
        generalize hx : slt L k = x at hcall c0 c1 c2
        clear hx
        go_wp2_with (go_at_fn K; refine (hcall _).mono ?_; rintro e w' ⟨rfl, hb2⟩)
        go_ret
        exact ⟨k, rfl, hb.trans (hb2.mono hb.size), Or.inr ⟨k, hlt, rfl, HQ.out, A.out⟩⟩
      | false =>
        have HQ : Hid (p (slt L k) = false) := hq
        rw [hq] at hcall
        clear hq
        generalize hx : slt L k = x at hcall c0 c1 c2
        clear hx
        go_wp2_with (go_at_fn K; refine (hcall _).mono ?_; rintro e w' ⟨rfl, hb2⟩)
        go_roundg (n - (k + 1))
        case measure => omega
        case rel =>
          refine ⟨k + 1, by omega, by omega, by go_num, hb.trans (hb2.mono hb.size), (show Hid _ from fun i hi => ?_)⟩
          by_cases e : i = k
          · subst e
            exact HQ.out
          · exact A.out i (by omega)
    · have : k = n := by omega
      subst this
      go_wp2
      go_ret
      exact ⟨-1, rfl, hb, Or.inl ⟨rfl, A.out⟩⟩

set_option maxHeartbeats 400000 in
theorem containsSl_any (K : Nat) (caps : Array Value) (p : Slt → Bool) (a : Option Addr) (c : Nat) (L : List Slt) (w : World) (hbig : L.length ≤ 9223372036854775807) (hL : SltsAt w a L)
    (eg : ∀ args w, (callFunc K args).run Try.prog w = .ok (.enter K args) w) (hf : TellsS K caps p w) :
    Calls Try.prog 86 #[.slice a L.length c, .func (.func K) #[] caps] w fun e w' => e = .returned (.bool (L.any p)) ∧ Below w.heap.size w w' := by
  have h := indexSl_any K caps p a c L w hbig hL eg hf
  have any_of : ∀ k, k < L.length → p (slt L k) = true → L.any p = true := fun k hk hp => List.any_eq_true.2 ⟨slt L k, by rw [slt_elem hk]; exact List.getElem_mem hk, hp⟩
  have none_of : (∀ i, i < L.length → p (slt L i) = false) → L.any p = false := fun H => by
    rw [List.any_eq_false]
    intro x hx
    obtain ⟨i, hi, rfl⟩ := List.getElem_of_mem hx
    have := H i hi
    rw [slt_elem hi] at this
    simp [this]
  have H : Hid _ := any_of
  have N : Hid _ := none_of
  clear any_of none_of hL hf
  go_enter Try.func86, Try.ntmps86
  go_wp2_with (go_at_call 107; refine h.mono ?_; rintro e w' ⟨r, rfl, hb, hr⟩)
  go_ret
  refine ⟨?_, hb⟩
  rcases hr with ⟨rfl, hall⟩ | ⟨k, hk, rfl, hp, _⟩
  · rw [N.out hall]; rfl
  · rw [H.out k hk hp]
    simp

set_option maxHeartbeats 400000 in
theorem slotsOf1_any (x : Slt) (k : Value) (q : Nat) (y : Int) (w : World) (hq : w.cell? ⟨q, 0, none⟩ = some (.int .i64 y)) :
    Calls Try.prog 87 #[.agg #[.int .i64 x.pl, .int .i64 x.num, k], .pointer (some ⟨q, 0, none⟩)] w fun e w' => e = .returned (.bool (decide (x.num = y))) ∧ Below w.heap.size w w' := by
  obtain ⟨pl, num, gv⟩ := x
  dsimp only
  have hql := World.block_lt_of_cell? _ _ hq
  by_cases e : num = y
  · subst e
    rw [decide_eq_true rfl]
    go_enter Try.func87, Try.ntmps87
    go_wp2
    go_ret
    exact ⟨rfl, (Below.refl _ _).alloc (Nat.le_refl _) _⟩
  · rw [decide_eq_false e]
    have e2 : (num == y) = false := by simpa using e
    go_enter Try.func87, Try.ntmps87
    go_wp2
    go_ret
    exact ⟨rfl, (Below.refl _ _).alloc (Nat.le_refl _) _⟩

/-- Is there a slot of this number? -/
theorem hasNum_any (a : Option Addr) (c : Nat) (L : List Slt) (q : Nat) (y : Int) (w : World) (hbig : L.length ≤ 9223372036854775807) (hL : SltsAt w a L) (hq : w.cell? ⟨q, 0, none⟩ = some (.int .i64 y)) :
    Calls Try.prog 86 #[.slice a L.length c, .func (.func 87) #[] #[.pointer (some ⟨q, 0, none⟩)]] w fun e w' => e = .returned (.bool (L.any fun s => decide (s.num = y))) ∧ Below w.heap.size w w' :=
  containsSl_any 87 _ (fun s => decide (s.num = y)) a c L w hbig hL (enters_of Try.func87 (by kernel_rfl) rfl) (fun x k w1 h1 => slotsOf1_any x k q y w1 ((h1.cell (by exact World.block_lt_of_cell? _ _ hq)).trans hq))
end Go.Proofs.Ythlpkdmmkfhleac

namespace Go.Proofs.Ythlpkdmmkfhleac
open Go.RowKit

theorem alloc_cell (W : World) (xs : Array Value) (t j : Nat) {v : Value} (h : xs[j]? = some v) : (W.alloc (.cells xs t)).cell? ⟨W.heap.size, j, none⟩ = some v := by
  have e := heap_alloc_new W (.cells xs t)
  simp only [World.cell?, e]
  exact h
theorem keepC {W W' : World} {b o : Nat} {v : Value} (h : W.cell? ⟨b, o, none⟩ = some v) (hb : Below W.heap.size W W') : W'.cell? ⟨b, o, none⟩ = some v := (hb.cell (World.block_lt_of_cell? _ _ h)).trans h
theorem one_belowS (w : World) (o1 : Obj) : Below w.heap.size w (w.alloc o1) := (Below.refl _ _).alloc (Nat.le_refl _) _
theorem two_belowS (w : World) (o1 o2 : Obj) : Below w.heap.size w ((w.alloc o1).alloc o2) := ((Below.refl _ _).alloc (Nat.le_refl _) _).alloc (by simp) _
theorem alloc_cell1 (W : World) (xs : Array Value) (t j : Nat) {v : Value} (o2 : Obj) (h : xs[j]? = some v) : ((W.alloc (.cells xs t)).alloc o2).cell? ⟨W.heap.size, j, none⟩ = some v := keepC (alloc_cell W xs t j h) (one_belowS _ _)
theorem alloc_cell2 (W : World) (xs : Array Value) (t j : Nat) {v : Value} (o1 : Obj) (h : xs[j]? = some v) : ((W.alloc o1).alloc (.cells xs t)).cell? ⟨W.heap.size + 1, j, none⟩ = some v := by
  have := alloc_cell (W.alloc o1) xs t j h
  simpa using this

theorem owns_block {w w' : World} {B e size n : Nat} {v : Value} {xs : List Value} (h : w.ownsRow B e size v n xs) (hb : ∀ k, v.ownBlock = some k → w'.heap[k]? = w.heap[k]?) : w'.ownsRow B e size v n xs := by
  obtain ⟨hl, h⟩ := h
  refine ⟨hl, ?_⟩
  rcases h with h | ⟨g, cap, cur, rfl, h1, h2, h3⟩
  · exact Or.inl h
  · exact Or.inr ⟨g, cap, cur, rfl, h1, (hb g rfl).trans h2, h3⟩

theorem ownsRow_baseL {w : World} {B B' e size n : Nat} {v : Value} {xs : List Value} (h : w.ownsRow B e size v n xs) (hB : B' ≤ B) : w.ownsRow B' e size v n xs := by
  obtain ⟨hl, h⟩ := h
  refine ⟨hl, ?_⟩
  rcases h with h | ⟨g, cap, cur, rfl, h1, h2, h3⟩
  · exact Or.inl h
  · exact Or.inr ⟨g, cap, cur, rfl, by omega, h2, h3⟩

/-- Two rows of different types are not one. -/
theorem owns_apart {w : World} {B B' e e' size size' n n' : Nat} {v v' : Value} {xs xs' : List Value} (h : w.ownsRow B e size v n xs) (h' : w.ownsRow B' e' size' v' n' xs') (hne : e ≠ e') : ∀ k, v.ownBlock = some k → v'.ownBlock ≠ some k := by
  intro k hk hk'
  obtain ⟨_, h⟩ := h
  obtain ⟨_, h'⟩ := h'
  rcases h with ⟨rfl, _⟩ | ⟨g, cap, cur, rfl, _, h2, _⟩
  · cases hk
  rcases h' with ⟨rfl, _⟩ | ⟨g', cap', cur', rfl, _, h2', _⟩
  · cases hk'
  cases hk
  cases hk'
  rw [h2] at h2'
  cases h2'
  exact hne rfl

theorem ints_own {B : Nat} {w2 : World} {v : Value} {l : List Int} {n : Nat} (hown : w2.ownsRow B 3 1 v n (l.map (Value.int .i64))) : ∃ sa cap, v = .slice sa l.length cap ∧ IntsAt w2 sa l := by
  have hn : n = l.length := by have := hown.1; simp at this; omega
  subst hn
  obtain ⟨hl, h⟩ := hown
  rcases h with ⟨rfl, h0⟩ | ⟨g, cap, cur, rfl, _, hg, h1, h2, h3, h4⟩
  · exact ⟨none, 0, by rw [h0], fun i hi => by omega⟩
  · refine ⟨some ⟨g, 0, none⟩, cap, rfl, fun i hi => ⟨g, 0, rfl, ?_⟩⟩
    have h5 : (cur.toList.take (l.length * 1))[i]? = some (.int .i64 (l.getD i 0)) := by
      rw [h4, List.getElem?_map, List.getElem?_eq_getElem hi, getD_elem l 0 hi]; rfl
    rw [List.getElem?_take, if_pos (by omega)] at h5
    simp only [Nat.zero_add, World.cell?, hg]
    simpa using h5
end Go.Proofs.Ythlpkdmmkfhleac
