/-
  What an insertion does to the orders of all trees, without the program.
-/
import Derived.Test.YtjlapfgghljidaaUWbWdSrWfTm
import Derived.Test.YtjlapfgghljidaaUZaUeZp
import Derived.WalkSpells
namespace Go.Proofs.Ytjlapfgghljidaa
open Go.RowKit

theorem Deep.more {S : List Nd} : ∀ {f p : Nat}, Deep S f p → Deep S (f + 1) p
  | 0, p, h => by
    intro k hk
    have h' : (nd S p).ks = [] := h
    rw [h'] at hk
    cases hk
  | f + 1, p, h => fun k hk => ⟨(h k hk).1, (h k hk).2.more⟩

theorem order_more {S : List Nd} : ∀ {f p : Nat}, Deep S f p → orderF S (f + 1) p = orderF S f p
  | 0, p, h => by
    have h' : (nd S p).ks = [] := h
    simp [orderF, h']
  | f + 1, p, h => by
    rw [orderF]
    conv => rhs; rw [orderF]
    congr 1
    have : ∀ l : List Int, (∀ k ∈ l, k ∈ (nd S p).ks) → (l.flatMap fun k => orderF S (f + 1) k.toNat) = l.flatMap fun k => orderF S f k.toNat := by
      intro l
      induction l with
      | nil => intro _; rfl
      | cons x r ih =>
        intro hl
        rw [List.flatMap_cons, List.flatMap_cons, order_more (h x (hl x List.mem_cons_self)).2, ih (fun k hk => hl k (List.mem_cons_of_mem _ hk))]
    exact this _ (fun _ h => h)

theorem order_fuel {S : List Nd} (wf : WF S) {p : Nat} (hp : p < S.length) : ∀ {f : Nat}, Deep S f p → orderF S f p = orderS S p := by
  have up : ∀ (j f : Nat), Deep S f p → Deep S (f + j) p ∧ orderF S (f + j) p = orderF S f p := by
    intro j
    induction j with
    | zero => intro f h; exact ⟨h, rfl⟩
    | succ j ih =>
      intro f h
      obtain ⟨h1, h2⟩ := ih f h
      exact ⟨h1.more, by rw [show f + (j + 1) = (f + j) + 1 by omega, order_more h1, h2]⟩
  intro f h
  unfold orderS
  rcases Nat.le_total f S.length with hle | hle
  · have := (up (S.length - f) f h).2
    rw [show f + (S.length - f) = S.length by omega] at this
    exact this.symm
  · have := (up (f - S.length) S.length (wf.deep_all hp)).2
    rw [show S.length + (f - S.length) = f by omega] at this
    exact this

/-- What stands under a node stands together in any order that it stands in. -/
theorem order_block {S : List Nd} (wf : WF S) : ∀ {f p c : Nat}, p < S.length → Deep S f p → (c : Int) ∈ orderF S f p → ∃ l1 l2, orderF S f p = l1 ++ orderS S c ++ l2
  | 0, p, c, hp, hD, hm => by
    have hc : c = p := by
      simp only [orderF, List.mem_singleton] at hm
      omega
    subst hc
    exact ⟨[], [], by rw [order_fuel wf hp hD]; simp⟩
  | f + 1, p, c, hp, hD, hm => by
    by_cases hc : c = p
    · subst hc
      exact ⟨[], [], by rw [order_fuel wf hp hD]; simp⟩
    · simp only [orderF] at hm ⊢
      rcases List.mem_cons.1 hm with e | hm
      · exact absurd (by omega) hc
      · obtain ⟨k, hk, hck⟩ := List.mem_flatMap.1 hm
        obtain ⟨⟨hk0, hk1⟩, hDk⟩ := hD k hk
        obtain ⟨l1, l2, e⟩ := order_block wf (p := k.toNat) (by omega) hDk hck
        obtain ⟨a, b, hab⟩ := List.append_of_mem hk
        rw [hab]
        refine ⟨(p : Int) :: (a.flatMap fun k => orderF S f k.toNat) ++ l1, l2 ++ (b.flatMap fun k => orderF S f k.toNat), ?_⟩
        rw [List.flatMap_append, List.flatMap_cons, e]
        simp

theorem leaveG_ks_all {S : List Nd} (h : WF S) {ch j : Nat} (hch : ch < S.length) (hj : j < S.length) : (nd (leaveG S ch) j).ks = flt (fun x => decide (x = (ch : Int))) (nd S j).ks := by
  by_cases hp : (nd S ch).p = j
  · unfold leaveG
    rw [if_neg (by omega), hp, Int.toNat_natCast]
    have hne : j ≠ ch := by
      obtain ⟨pa, e, _, hn, _⟩ := h.parent_place hch (by omega)
      have : pa = j := by omega
      rw [← this]
      exact hn
    rw [leave_ks S hne hj, if_pos rfl]
  · rw [leaveG_ks h hch hj hp, flt_all]
    intro i hi
    rw [decide_eq_false]
    intro e
    have hm : (ch : Int) ∈ (nd S j).ks := by
      rw [← e, getD_elem _ _ hi]
      exact List.getElem_mem hi
    obtain ⟨k, e1, _, _, e2, _⟩ := h.kid hj hm
    have : k = ch := by omega
    subst this
    exact hp e2

theorem flt_self (l : List Int) : flt (fun x => decide (x ∈ l)) l = [] := by
  rw [List.eq_nil_iff_forall_not_mem]
  intro x hx
  have := mem_flt.1 hx
  simp [this.1] at this

theorem flt_append' (p : Int → Bool) (a b : List Int) : flt p (a ++ b) = flt p a ++ flt p b := by
  unfold flt
  exact List.filter_append _ _

/-- The order of a tree that a node has left: the same without it and what is under it. -/
theorem order_leave {S : List Nd} (h : WF S) {ch : Nat} (hch : ch < S.length) (hcu : (nd S ch).u = true) : ∀ {f x : Nat}, x < S.length → Deep S f x → (x : Int) ∉ orderS S ch → orderF (leaveG S ch) f x = flt (fun y => decide (y ∈ orderS S ch)) (orderF S f x)
  | 0, x, hx, hD, hn => by
    simp only [orderF]
    unfold flt
    simp [hn]
  | f + 1, x, hx, hD, hn => by
    have F := orderFacts h hch hcu
    simp only [orderF]
    rw [leaveG_ks_all h hch hx]
    have hhead : ∀ l : List Int, flt (fun y => decide (y ∈ orderS S ch)) ((x : Int) :: l) = (x : Int) :: flt (fun y => decide (y ∈ orderS S ch)) l := fun l => by
      unfold flt
      rw [List.filter_cons, if_pos (by simp [hn])]
    rw [hhead]
    congr 1
    have key : ∀ l : List Int, (∀ k ∈ l, k ∈ (nd S x).ks) → ((flt (fun y => decide (y = (ch : Int))) l).flatMap fun k => orderF (leaveG S ch) f k.toNat) = flt (fun y => decide (y ∈ orderS S ch)) (l.flatMap fun k => orderF S f k.toNat) := by
      intro l
      induction l with
      | nil => intro _; rfl
      | cons k r ih =>
        intro hl
        have hk := hl k List.mem_cons_self
        obtain ⟨⟨hk0, hk1⟩, hDk⟩ := hD k hk
        obtain ⟨kn, rfl⟩ : ∃ kn : Nat, k = kn := ⟨k.toNat, by omega⟩
        rw [Int.toNat_natCast] at hDk
        have ihr := ih (fun y hy => hl y (List.mem_cons_of_mem _ hy))
        rw [List.flatMap_cons, flt_append', ← ihr, Int.toNat_natCast]
        by_cases e : kn = ch
        · subst e
          have e1 : flt (fun y => decide (y = (kn : Int))) ((kn : Int) :: r) = flt (fun y => decide (y = (kn : Int))) r := by
            unfold flt
            rw [List.filter_cons, if_neg (by simp)]
          rw [e1, order_fuel h hch hDk, flt_self, List.nil_append]
        · have e1 : flt (fun y => decide (y = (ch : Int))) ((kn : Int) :: r) = (kn : Int) :: flt (fun y => decide (y = (ch : Int))) r := by
            unfold flt
            rw [List.filter_cons, if_pos (by simp; omega)]
          rw [e1, List.flatMap_cons, Int.toNat_natCast]
          have hkn : (kn : Int) ∉ orderS S ch := fun hm => by
            obtain ⟨k', e2, k1, _, k3, _⟩ := h.kid hx hk
            have : k' = kn := by omega
            subst this
            have hc := F.closed k' k1 (by rw [k3]; omega) e
            rw [decide_eq_true hm, k3] at hc
            exact hn (of_decide_eq_true hc)
          rw [order_leave h hch hcu (by omega) hDk hkn]
    exact key _ (fun _ h => h)

/-- What an insertion, or none, leaves as it was. -/
structure Moved (S A : List Nd) (pa ch : Nat) : Prop where
  wfS : WF S
  wfA : WF A
  len : A.length = S.length
  pl : pa < S.length
  cl : ch < S.length
  cu : (nd S ch).u = true
  par : (nd A ch).p = pa
  ord : orderS A ch = orderS S ch
  same : leaveG A ch = leaveG S ch
  un : ∀ i, i < S.length → (nd A i).u = (nd S i).u ∧ (nd A i).n = (nd S i).n

theorem not_below {S : List Nd} (h : WF S) {ch k : Nat} (hch : ch < S.length) (hcu : (nd S ch).u = true) (hk : k < S.length) (hkp : (nd S k).p < 0) (hne : k ≠ ch) : (k : Int) ∉ orderS S ch := fun hm => by
  have F := orderFacts h hch hcu
  obtain ⟨i, hi, e⟩ := List.getElem_of_mem hm
  obtain ⟨q, e1, e2, _, _, e5⟩ := F.each i hi
  rw [getD_elem _ _ hi, e] at e1
  have : q = k := by omega
  subst this
  by_cases h0 : i = 0
  · subst h0
    have := F.head
    rw [getD_elem _ _ hi, e] at this
    omega
  · have hp := e5 (by omega)
    obtain ⟨j, hj, ej⟩ := List.getElem_of_mem (List.mem_of_mem_take hp)
    obtain ⟨q', f1, _⟩ := F.each j hj
    rw [getD_elem _ _ hj, ej] at f1
    omega

theorem Moved.facts {S A : List Nd} {pa ch k : Nat} (m : Moved S A pa ch) (hk : k < S.length) (hku : (nd S k).u = true) (hkp : (nd S k).p < 0) (hkA : (nd A k).p < 0) (hne : k ≠ ch) :
    flt (fun y => decide (y ∈ orderS S ch)) (orderS S k) = flt (fun y => decide (y ∈ orderS S ch)) (orderS A k) ∧ decide ((ch : Int) ∈ orderS A k) = decide ((pa : Int) ∈ orderS A k) ∧
    ((ch : Int) ∈ orderS A k → ∃ l1 l2, orderS A k = l1 ++ orderS S ch ++ l2 ∧ idx (orderS A k) ch = (l1.length : Int)) := by
  have hcA : ch < A.length := by rw [m.len]; exact m.cl
  have hkA' : k < A.length := by rw [m.len]; exact hk
  have hcuA : (nd A ch).u = true := by rw [(m.un ch m.cl).1]; exact m.cu
  have hkuA : (nd A k).u = true := by rw [(m.un k hk).1]; exact hku
  have n1 := not_below m.wfS m.cl m.cu hk hkp hne
  have n2 := not_below m.wfA hcA hcuA hkA' hkA hne
  have h1 := order_leave m.wfS m.cl m.cu hk (m.wfS.deep_all hk) n1
  have h2 := order_leave m.wfA hcA hcuA hkA' (m.wfA.deep_all hkA') n2
  rw [m.same, m.ord, m.len] at h2
  have F := orderFacts m.wfA hkA' hkuA
  refine ⟨?_, ?_, fun hm => ?_⟩
  · have e1 : orderS A k = orderF A S.length k := by unfold orderS; rw [m.len]
    rw [e1, ← h2, h1]
    rfl
  · have := F.closed ch hcA (by rw [m.par]; omega) (Ne.symm hne)
    rw [m.par] at this
    exact this.symm
  · obtain ⟨l1, l2, e⟩ := order_block m.wfA hkA' (m.wfA.deep_all hkA') hm
    rw [m.ord] at e
    refine ⟨l1, l2, e, ?_⟩
    have hnd : (orderS A k).Nodup := nodup_order m.wfA hkA' (Nat.le_refl _) (m.wfA.deep_all hkA')
    have e' : orderS A k = l1 ++ orderS S ch ++ l2 := e
    have hhead : ∃ r, orderS S ch = (ch : Int) :: r := by
      obtain ⟨r, hr, _⟩ := par_root m.wfS m.cl (m.wfS.deep_all m.cl)
      exact ⟨r, hr⟩
    obtain ⟨r, hr⟩ := hhead
    rw [hr] at e'
    have hlen : l1.length < (orderS A k).length := by rw [e']; simp
    refine (idx_some hlen ?_ (fun i hi hq => ?_)).1
    · rw [e', getD_elem _ _ (by simp)]
      simp
    · rw [e', getD_elem _ _ (by simp; omega)] at hq
      rw [e', List.append_assoc] at hnd
      have hni := List.nodup_append.1 hnd
      rw [List.getElem_append_left (by simp; omega), List.getElem_append_left (by omega)] at hq
      exact hni.2.2 _ (List.getElem_mem (by omega)) (ch : Int) (by simp) hq
end Go.Proofs.Ytjlapfgghljidaa

namespace Go.Proofs.Ytjlapfgghljidaa
open Go.RowKit

theorem sub_slice (nb no NL ncap i bl : Nat) (h1 : i + bl ≤ NL) (h2 : NL ≤ ncap) (h3 : 1 ≤ bl) (h4 : ncap ≤ 9223372036854775807) :
    ∀ W, (Instr.slice 33 (.slice (some ⟨nb, no, none⟩) NL ncap) (some (.int .i64 (i : Int))) (some (.int .i64 ((i : Int) + (bl : Int)))) none).run Try.prog W = .ok (.slice (some ⟨nb, no + i, none⟩) bl (ncap - i)) W := by
  intro W
  have e1 : ¬ ((ncap : Int) = (i : Int)) := by omega
  have e2 : (i : Int) ≤ (ncap : Int) := by omega
  have e3 : (i : Int) + (bl : Int) ≤ (ncap : Int) := by omega
  have e4 : (i : Int) ≤ (i : Int) + (bl : Int) := by omega
  have e5 : ¬ (i : Int) = (ncap : Int) := by omega
  go_simp
  omega

theorem ints_cells {w : World} {b o : Nat} {q : List Int} (h : IntsAt w (some ⟨b, o, none⟩) q) : ∀ j u, (q.map (Value.int .i64))[j]? = some u → w.cell? ((⟨b, o, none⟩ : Addr).add j) = some u := fun j u hj => by
  rw [List.getElem?_map] at hj
  by_cases hl : j < q.length
  · rw [List.getElem?_eq_getElem hl] at hj
    have hu : u = .int .i64 q[j] := by simpa using hj.symm
    obtain ⟨b', o', e, hc⟩ := h j hl
    cases e
    rw [Addr.add_lit, hc, getD_elem q 0 hl, hu]
  · rw [List.getElem?_eq_none (by omega)] at hj
    cases hj

theorem ints_one {q : List Int} : ∀ u ∈ q.map (Value.int .i64), u.oneCell' = true := fun u hu => by
  obtain ⟨x, _, rfl⟩ := List.mem_map.1 hu
  rfl

set_option maxRecDepth 100000 in
set_option maxHeartbeats 4000000 in
theorem cloneInts_any (b o qc : Nat) (q : List Int) (w : World) (hq : 1 ≤ q.length ∧ q.length ≤ 1000) (hQ : IntsAt w (some ⟨b, o, none⟩) q) :
    Calls Try.prog 37 #[.slice (some ⟨b, o, none⟩) q.length qc] w fun e w' => ∃ g cap, e = .returned (.slice (some ⟨g, 0, none⟩) q.length cap) ∧ Below w.heap.size w w' ∧ w'.ownsRow w.heap.size 3 1 (.slice (some ⟨g, 0, none⟩) q.length cap) q.length (q.map (Value.int .i64)) := by
  obtain ⟨i0, hi0, hz0, hz1, hz2⟩ := info_parts info3
  have hnil := fun (W : World) n c n' c' => Lib.run_eql_slice_nil (P := Try.prog) W 33 3 (some ⟨b, o, none⟩) n c n' c' Try.underlying33
  have NEW : Hid (∀ o1, ∀ j u, (q.map (Value.int .i64))[j]? = some u → (w.alloc o1).cell? ((⟨b, o, none⟩ : Addr).add j) = some u) := fun o1 => ints_cells (hQ.below ((Below.refl _ _).alloc (Nat.le_refl _) o1))
  have ONE : Hid (∀ u ∈ q.map (Value.int .i64), u.oneCell' = true) := ints_one
  have LEN : Hid ((q.map (Value.int .i64)).length = q.length * 1) := (by simp : (q.map (Value.int .i64)).length = q.length * 1)
  clear hQ
  generalize q.map (Value.int .i64) = cs at *
  generalize q.length = L at *
  go_enter Try.func37, Try.ntmps37
  go_wp2_with (at_builtin; refine wpList_append_own _ rfl _ _ 33 rfl w.heap.size 3 i0 (.int .i64 0) 1 8 Try.underlying33 hi0 hz0 hz1 hz2 rfl (by decide) (.slice (some ⟨w.heap.size, 0, none⟩) 0 0) 0 [] rfl ?c0 ⟨b, o, none⟩ L qc cs rfl LEN.out (NEW.out _) ONE.out ?c3 ?c4 ?c5 ?_)
  case c0 => exact ⟨by simp, Or.inr ⟨w.heap.size, 0, #[], rfl, Nat.le_refl _, heap_alloc_new w _, by omega, by unfold maxLen; omega, by simp, by simp⟩⟩
  case c3 => unfold maxLen; omega
  case c4 => omega
  case c5 => first | omega | simp
  intro v' w' hown hgrow _
  obtain ⟨g', cap', rfl⟩ : ∃ g' cap', v' = .slice (some ⟨g', 0, none⟩) L cap' := by
    rcases hown.2 with ⟨_, h⟩ | ⟨g', cap', cur, h, _⟩
    · omega
    · exact ⟨g', cap', h⟩
  have HO : Hid (w'.ownsRow w.heap.size 3 1 (.slice (some ⟨g', 0, none⟩) L cap') L cs) := hown
  have HB : Hid (Below w.heap.size w w') := ((Below.refl _ _).alloc (Nat.le_refl _) _).grown hgrow (by simp) (fun k hk => by simp [Value.ownBlock] at hk; omega)
  clear hown hgrow
  go_wp2
  go_ret
  exact ⟨g', cap', rfl, HB.out, HO.out⟩

theorem mvOut_any (bb : Nat) (la : Option Addr) (lc : Nat) (l : List Int) (x : Int) (w : World) (hl : l.length ≤ 1000) (cb : w.cell? ⟨bb, 0, none⟩ = some (.slice la l.length lc)) (hI : IntsAt w la l) :
    Calls Try.prog 34 #[.int .i64 x, .pointer (some ⟨bb, 0, none⟩)] w fun e w' => e = .returned (.bool (decide (x ∈ l))) ∧ Below w.heap.size w w' := by
  have D : Hid _ := contains_any la lc l x w (by omega) hI
  have hbl := World.block_lt_of_cell? _ _ cb
  clear hI
  generalize decide (x ∈ l) = r at *
  generalize l.length = L at *
  go_enter Try.func34, Try.ntmps34
  go_wp2_with fail
  refine Calls.mono D.out ?_
  rintro e w' ⟨rfl, rfl⟩
  go_wp2
  go_ret
  exact ⟨rfl, Below.refl _ _⟩

/-- A copy without what stands in another list. -/
theorem del_any (w0 : World) (bb : Nat) (la : Option Addr) (lc : Nat) (l : List Int) (hl : l.length ≤ 1000) (cb : w0.cell? ⟨bb, 0, none⟩ = some (.slice la l.length lc)) (hI : IntsAt w0 la l)
    (g cap : Nat) (ks : List Int) (w : World) (hb : Below w0.heap.size w0 w) (B : Nat) (hB : w0.heap.size ≤ B) (hown : w.ownsRow B 3 1 (.slice (some ⟨g, 0, none⟩) ks.length cap) ks.length (ks.map (Value.int .i64))) :
    Calls Try.prog 36 #[.slice (some ⟨g, 0, none⟩) ks.length cap, .func (.func 34) #[] #[.pointer (some ⟨bb, 0, none⟩)]] w fun e w' => e = .returned (.slice (some ⟨g, 0, none⟩) (flt (fun y => decide (y ∈ l)) ks).length cap) ∧ Off (fun b => b = g) w w' ∧ IntsAt w' (some ⟨g, 0, none⟩) (flt (fun y => decide (y ∈ l)) ks) := by
  obtain ⟨h1, h2, h3, _, G, hG, hGk⟩ := row_of_own hown
  refine (deleteFunc_in 34 #[.pointer (some ⟨bb, 0, none⟩)] (fun y => decide (y ∈ l)) g ks.length cap ks G w rfl h2 (by unfold maxLen at h3; omega) hG hGk (enters_of Try.func34 (by kernel_rfl) rfl) (fun x _ w1 ho => ?_)).mono ?_
  · have hb1 : Below w0.heap.size w0 w1 := hb.trans (ho.below hb.size (fun k hk => by omega))
    exact mvOut_any bb la lc l x w1 hl ((hb1.cell (World.block_lt_of_cell? _ _ cb)).trans cb) (hI.below hb1)
  · rintro e w' ⟨rfl, ho, G', hG', hGk'⟩
    exact ⟨rfl, ho, ints_of_row hG' (Nat.le_trans (flt_le _ _) h2) hGk'⟩
end Go.Proofs.Ytjlapfgghljidaa
