/-
  The contract of ground.Walk, over any function that tells what is right below a place: its closure appends a place, and all below it likewise, to a slice of the call's own.
-/
import Derived.Test.YthlpkdmmkfhleacJSk
import Derived.Laws.AppendOwn
namespace Go.Proofs.Ythlpkdmmkfhleac
open Go.RowKit

/-- A node and all under it, each ahead of its children, down to f steps. -/
def orderF (S : List Nd) : Nat → Nat → List Int
  | 0, p => [(p : Int)]
  | f + 1, p => (p : Int) :: (nd S p).ks.flatMap fun k => orderF S f k.toNat

/-- No way down from p is longer than f; who is named on it is a place. -/
def Deep (S : List Nd) : Nat → Nat → Prop
  | 0, p => (nd S p).ks = []
  | f + 1, p => ∀ k ∈ (nd S p).ks, (0 ≤ k ∧ k < S.length) ∧ Deep S f k.toNat

/-- The same, over whatever is right below. -/
def orderG (ks : Nat → List Int) : Nat → Nat → List Int
  | 0, p => [(p : Int)]
  | f + 1, p => (p : Int) :: (ks p).flatMap fun k => orderG ks f k.toNat

def DeepG (ks : Nat → List Int) (n : Nat) : Nat → Nat → Prop
  | 0, p => ks p = []
  | f + 1, p => ∀ k ∈ ks p, (0 ≤ k ∧ k < n) ∧ DeepG ks n f k.toNat

theorem orderG_eq (S : List Nd) : ∀ f p, orderG (fun p => (nd S p).ks) f p = orderF S f p
  | 0, _ => rfl
  | f + 1, p => by
    simp only [orderG, orderF]
    congr 1
    congr 1
    funext k
    exact orderG_eq S f k.toNat

theorem deepG_of {S : List Nd} : ∀ {f p : Nat}, Deep S f p → DeepG (fun p => (nd S p).ks) S.length f p
  | 0, _, h => h
  | _ + 1, _, h => fun k hk => ⟨(h k hk).1, deepG_of (h k hk).2⟩

/-- What is appended to so far. -/
def OrdI (W : World) (bo : Nat) (l : List Int) (w1 : World) : Prop :=
  Off (fun k => k = bo) W w1 ∧ ∃ v, w1.cell? ⟨bo, 0, none⟩ = some v ∧ w1.frozen? ⟨bo, 0, none⟩ = false ∧ w1.ownsRow W.heap.size 3 1 v l.length (l.map (Value.int .i64))

theorem grownBy_setCell (w : World) (a : Addr) (v : Value) : w.grownBy (w.setCell a v) (some a.block) :=
  ⟨rfl, rfl, rfl, by simp [World.setCell], fun k _ hne => Below.heap_setCell _ _ _ _ (fun e => hne (by rw [e]))⟩

theorem OrdI.step {W w1 w2 : World} {bo : Nat} {l : List Int} {p : Int} {v v' : Value} (hbo : bo < W.heap.size) (hO : Off (fun k => k = bo) W w1) (hc : w1.cell? ⟨bo, 0, none⟩ = some v) (hf : w1.frozen? ⟨bo, 0, none⟩ = false)
    (hown : w1.ownsRow W.heap.size 3 1 v l.length (l.map (Value.int .i64))) (o1 : Obj)
    (hown' : w2.ownsRow W.heap.size 3 1 v' (l.length + 1) (l.map (Value.int .i64) ++ [.int .i64 p])) (hg : (w1.alloc o1).grownBy w2 v.ownBlock) :
    w2.cell? ⟨bo, 0, none⟩ = some v ∧ w2.frozen? ⟨bo, 0, none⟩ = false ∧ OrdI W bo (l ++ [p]) (w2.setCell ⟨bo, 0, none⟩ v') := by
  have hrow : ∀ k, v.ownBlock = some k → W.heap.size ≤ k := fun k hk => (hown.lt k hk).1
  have hbw : bo < w1.heap.size := Nat.lt_of_lt_of_le hbo hO.size
  have hblk : ∀ k, k < W.heap.size → w2.heap[k]? = w1.heap[k]? := fun k hk =>
    (hg.block k (by have := hO.size; simp; omega) (fun e => by have := hrow k e.symm; omega)).trans (Below.heap_alloc _ _ _ (by have := hO.size; omega))
  have hc2 : w2.cell? ⟨bo, 0, none⟩ = some v := (World.cell?_of_block (hblk bo hbo)).trans hc
  refine ⟨hc2, (World.frozen?_of_block (hblk bo hbo)).trans hf, ?_, v', World.cell?_setCell_same _ _ _ hc2, ?_, ?_⟩
  · refine ⟨?_, ?_, ?_, ?_, fun k hk hx => ?_⟩
    · exact hg.os.trans hO.os
    · exact hg.tape.trans hO.tape
    · exact hg.output.trans hO.output
    · have := hg.size; have h2 := hO.size; simp [World.setCell] at *; omega
    · rw [Below.heap_setCell _ _ _ _ (by exact hx), hblk k hk]; exact hO.block k hk hx
  · rw [World.frozen?_setCell]; exact (World.frozen?_of_block (hblk bo hbo)).trans hf
  · have h3 := hown'.kept (grownBy_setCell w2 ⟨bo, 0, none⟩ v') (by
      cases hb : v'.ownBlock with
      | none => exact Or.inl rfl
      | some k => right; intro e; have := (hown'.lt k hb).1; simp at e; omega)
    simpa using h3

theorem OrdI.below {W w1 w2 : World} {bo : Nat} {l : List Int} (h : OrdI W bo l w1) (hbo : bo < W.heap.size) (hb : Below w1.heap.size w1 w2) : OrdI W bo l w2 := by
  obtain ⟨hO, v, hc, hf, hown⟩ := h
  have hbw : bo < w1.heap.size := Nat.lt_of_lt_of_le hbo hO.size
  exact ⟨hO.trans (Off.of_below hb), v, (hb.cell (by exact hbw)).trans hc, (hb.frozen (by exact hbw)).trans hf, hown.kept (row := none) ⟨hb.os, hb.tape, hb.output, hb.size, fun k hk _ => hb.block k hk⟩ (by
    cases hv : v.ownBlock with
    | none => exact Or.inl rfl
    | some k => exact Or.inr (fun e => by cases e))⟩

theorem flat_take (ks : List Int) (sub : Int → List Int) (q : Nat) (hq : q < ks.length) : (ks.take (q + 1)).flatMap sub = (ks.take q).flatMap sub ++ sub (ks.getD q 0) := by
  rw [List.take_succ_eq_append_getElem hq, List.flatMap_append, getD_elem ks 0 hq]
  simp
theorem flat_take_le (ks : List Int) (sub : Int → List Int) (q : Nat) : ((ks.take q).flatMap sub).length ≤ (ks.flatMap sub).length := by
  have h := List.take_append_drop q ks
  have : (ks.flatMap sub).length = ((ks.take q).flatMap sub).length + ((ks.drop q).flatMap sub).length := by
    rw [← List.length_append, ← List.flatMap_append, h]
  omega

set_option maxHeartbeats 1000000 in
theorem walk_step (ks : Nat → List Int) (n : Nat) (K : Nat) (caps : Array Value) (W : World) (bo bb bw : Nat) (hbo : bo < W.heap.size) (hbb : bb < W.heap.size) (hbw : bw < W.heap.size) (hob : bb ≠ bo) (how : bw ≠ bo)
    (eg : ∀ args w, (callFunc K args).run Try.prog w = .ok (.enter K args) w)
    (hcb : W.cell? ⟨bb, 0, none⟩ = some (.func (.func K) #[] caps)) (hcw : W.cell? ⟨bw, 0, none⟩ = some (.func (.func 90) #[] #[.pointer (some ⟨bo, 0, none⟩), .pointer (some ⟨bb, 0, none⟩), .pointer (some ⟨bw, 0, none⟩)]))
    (hrow : ∀ p, p < n → ∃ ka kc, (ks p).length ≤ 9223372036854775807 ∧ (∀ w1, Off (fun k => k = bo) W w1 → IntsAt w1 ka (ks p)) ∧ ∀ w1, Off (fun k => k = bo) W w1 → Calls Try.prog K (#[.int .i64 p] ++ caps) w1 fun e w2 => e = .returned (.slice ka (ks p).length kc) ∧ Below w1.heap.size w1 w2) (p : Nat) (hp : p < n) (sub : Int → List Int)
    (hsub : ∀ k ∈ ks p, ∀ l w1, l.length + (sub k).length ≤ 1000000 → OrdI W bo l w1 →
      Calls Try.prog 90 #[.int .i64 k, .pointer (some ⟨bo, 0, none⟩), .pointer (some ⟨bb, 0, none⟩), .pointer (some ⟨bw, 0, none⟩)] w1 fun e w2 => e = .returned (.tuple #[]) ∧ OrdI W bo (l ++ sub k) w2)
    (l : List Int) (w1 : World) (hlen : l.length + 1 + ((ks p).flatMap sub).length ≤ 1000000) (hI : OrdI W bo l w1) :
    Calls Try.prog 90 #[.int .i64 p, .pointer (some ⟨bo, 0, none⟩), .pointer (some ⟨bb, 0, none⟩), .pointer (some ⟨bw, 0, none⟩)] w1 fun e w2 => e = .returned (.tuple #[]) ∧ OrdI W bo (l ++ (p : Int) :: (ks p).flatMap sub) w2 := by
  obtain ⟨i0, hi0, hz0, hz1, hz2⟩ := info_parts info3
  obtain ⟨hO, v, hc, hf, hown⟩ := hI
  obtain ⟨ka, kc, hbig, hints, hcall0⟩ := hrow p hp
  have hlen2 : l.length + 1 ≤ 1000000 := by omega
  have hsz := hO.size
  have hcell : ∀ w2, Off (fun k => k = bo) W w2 → w2.cell? ⟨bb, 0, none⟩ = some (.func (.func K) #[] caps) ∧ w2.cell? ⟨bw, 0, none⟩ = some (.func (.func 90) #[] #[.pointer (some ⟨bo, 0, none⟩), .pointer (some ⟨bb, 0, none⟩), .pointer (some ⟨bw, 0, none⟩)]) := fun w2 h2 =>
    ⟨(h2.cell (by exact hbb) (by exact hob)).trans hcb, (h2.cell (by exact hbw) (by exact how)).trans hcw⟩
  have CELL : Hid _ := hcell
  have SUB : Hid _ := hsub
  have HL : Hid _ := hlen
  have HO : Hid (Off (fun k => k = bo) W w1) := hO
  have HOWN : Hid (w1.ownsRow W.heap.size 3 1 v l.length (l.map (Value.int .i64))) := hown
  have HC : Hid _ := hc
  have HF : Hid _ := hf
  have HINTS : Hid _ := hints
  have HCALL : Hid _ := hcall0
  clear hcell hsub hlen hO hown hcb hcw hrow hints hcall0 hp
  generalize ks p = ks at *
  go_enter Try.func90, Try.ntmps90
  go_wp2_with (at_builtin; refine wpList_append_own _ rfl _ _ 39 rfl W.heap.size 3 i0 (.int .i64 0) 1 8 Try.underlying39 hi0 hz0 hz1 hz2 rfl (by decide) _ _ _ rfl (HOWN.out.alloc _) ⟨w1.heap.size, 0, none⟩ 1 1 [.int .i64 (p : Int)] rfl rfl ?c1 ?c2 ?c3 ?c4 ?c5 ?_)
  case c1 =>
    intro j u hj
    match j, hj with
    | 0, hj => simp at hj; subst hj; simp [Addr.add]
  case c2 => intro u hu; simp at hu; subst hu; rfl
  case c3 => unfold maxLen; omega
  case c4 => omega
  case c5 => simp; omega
  intro v' w2 hown' hgrow _
  obtain ⟨g', cap', rfl⟩ : ∃ g' cap', v' = .slice (some ⟨g', 0, none⟩) (l.length + 1) cap' := by
    rcases hown'.2 with ⟨_, h⟩ | ⟨g', cap', cur, h, _⟩
    · omega
    · exact ⟨g', cap', h⟩
  obtain ⟨hc2, hf2, hI2⟩ := OrdI.step hbo HO.out HC.out HF.out HOWN.out _ hown' hgrow
  obtain ⟨hcb, hcw⟩ := CELL.out _ hI2.1
  have HI2 : Hid (OrdI W bo (l ++ (p : Int) :: (ks.take 0).flatMap sub) _) := (show OrdI W bo (l ++ (p : Int) :: []) _ from hI2)
  clear hown' hgrow hI2 hc hf hcw
  generalize hkl : ks.length = L at *
  have KL : Hid (ks.length = L) := hkl
  clear hkl
  go_wp2_with (go_at_fn K; refine (HCALL.out _ HI2.out.1).mono ?_; rintro e w4 ⟨rfl, hb4⟩)
  have HI4 : Hid (OrdI W bo (l ++ (p : Int) :: (ks.take 0).flatMap sub) w4) := HI2.out.below hbo hb4
  clear HI2 hb4 hc2 hf2 hcb HCALL
  go_wp2
  go_loopg [15] L (fun g s18 wr => ∃ q : Nat, q ≤ L ∧ L - q ≤ g ∧ s18 = .int .i64 q ∧ Hid (OrdI W bo (l ++ (p : Int) :: (ks.take q).flatMap sub) wr))
  case atStart => exact ⟨0, by omega, by omega, rfl, HI4⟩
  case round =>
    obtain ⟨q, hq, hg, rfl, I3⟩ := hrel
    by_cases hql : q < L
    · obtain ⟨hcb, hcw⟩ := CELL.out _ I3.out.1
      obtain ⟨kb, ko, rfl, hkc⟩ := (HINTS.out _ I3.out.1) q (by rw [KL.out]; exact hql)
      have hmem : ks.getD q 0 ∈ ks := by rw [getD_elem ks 0 (by rw [KL.out]; exact hql)]; exact List.getElem_mem _
      have hft := flat_take ks sub q (by rw [KL.out]; exact hql)
      have hfl := flat_take_le ks sub (q + 1)
      rw [hft] at hfl
      have hcall := SUB.out (ks.getD q 0) hmem _ wr (by have := HL.out; simp only [List.length_append, List.length_cons] at hfl this ⊢; omega) I3.out
      have FT : Hid _ := hft
      clear hmem hft hfl I3 hcb
      generalize ks.getD q 0 = y at *
      go_wp2_with (go_at_call 90; refine hcall.mono ?_; rintro e w3 ⟨rfl, I4⟩)
      go_roundg (L - (q + 1))
      case measure => omega
      case rel =>
        refine ⟨q + 1, by omega, by omega, by go_num, ?_⟩
        have I5 : OrdI W bo (l ++ (p : Int) :: (ks.take (q + 1)).flatMap sub) w3 := by
          rw [FT.out]
          simpa using I4
        exact I5
    · have : q = L := by omega
      subst this
      have E : (ks.take q) = ks := by rw [← KL.out]; exact List.take_length
      have I4 := I3.out
      rw [E] at I4
      have I5 : Hid _ := I4
      clear I4 E
      go_wp2
      exact bodyPost_end (v := .tuple #[]) (by simp [results, Try.results90, go_sem]) rfl ⟨rfl, I5.out⟩

theorem walkc_any (ks : Nat → List Int) (n : Nat) (K : Nat) (caps : Array Value) (W : World) (bo bb bw : Nat) (hbo : bo < W.heap.size) (hbb : bb < W.heap.size) (hbw : bw < W.heap.size) (hob : bb ≠ bo) (how : bw ≠ bo)
    (eg : ∀ args w, (callFunc K args).run Try.prog w = .ok (.enter K args) w)
    (hcb : W.cell? ⟨bb, 0, none⟩ = some (.func (.func K) #[] caps)) (hcw : W.cell? ⟨bw, 0, none⟩ = some (.func (.func 90) #[] #[.pointer (some ⟨bo, 0, none⟩), .pointer (some ⟨bb, 0, none⟩), .pointer (some ⟨bw, 0, none⟩)]))
    (hrow : ∀ p, p < n → ∃ ka kc, (ks p).length ≤ 9223372036854775807 ∧ (∀ w1, Off (fun k => k = bo) W w1 → IntsAt w1 ka (ks p)) ∧ ∀ w1, Off (fun k => k = bo) W w1 → Calls Try.prog K (#[.int .i64 p] ++ caps) w1 fun e w2 => e = .returned (.slice ka (ks p).length kc) ∧ Below w1.heap.size w1 w2) :
    ∀ (f p : Nat) (l : List Int) (w1 : World), p < n → DeepG ks n f p → l.length + (orderG ks f p).length ≤ 1000000 → OrdI W bo l w1 →
    Calls Try.prog 90 #[.int .i64 p, .pointer (some ⟨bo, 0, none⟩), .pointer (some ⟨bb, 0, none⟩), .pointer (some ⟨bw, 0, none⟩)] w1 fun e w2 => e = .returned (.tuple #[]) ∧ OrdI W bo (l ++ orderG ks f p) w2 := by
  intro f
  induction f with
  | zero =>
    intro p l w1 hp hD hlen hI
    have hk : ks p = [] := hD
    have h := walk_step ks n K caps W bo bb bw hbo hbb hbw hob how eg hcb hcw hrow p hp (fun _ => []) (fun k hk' => by rw [hk] at hk'; cases hk') l w1 (by simp only [orderG] at hlen; rw [hk]; simpa using hlen) hI
    rw [hk] at h
    exact h
  | succ f ih =>
    intro p l w1 hp hD hlen hI
    exact walk_step ks n K caps W bo bb bw hbo hbb hbw hob how eg hcb hcw hrow p hp (fun k => orderG ks f k.toNat) (fun k hk l w1 hl hI1 => by
      obtain ⟨⟨h1, h2⟩, h3⟩ := hD k hk
      have := ih k.toNat l w1 (by omega) h3 hl hI1
      rwa [Int.toNat_of_nonneg h1] at this) l w1 (by simp only [orderG, List.length_cons] at hlen; omega) hI

end Go.Proofs.Ythlpkdmmkfhleac
