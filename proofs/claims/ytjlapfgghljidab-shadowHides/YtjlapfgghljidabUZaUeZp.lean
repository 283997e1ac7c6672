/-
  What a node stands under, without the program: the line of a node.
-/
import Derived.Test.YtjlapfgghljidabUWfXd
import Derived.Test.YtjlapfgghljidabUUaUb
import Derived.Test.YtjlapfgghljidabUSaSbScBa
namespace Go.Proofs.Ytjlapfgghljidab
open Go.RowKit

def pathStep : List Int → Int → List Int × Bool := fun st x => (st ++ [x], true)

/-- What stands at a place, and what it stands right under, and so on. -/
def lineF (S : List Nd) : Nat → Int → List Int
  | 0, _ => []
  | f + 1, x => if isPl S.length x then x :: lineF S f (rightUnder (nd S x.toNat)) else []

theorem climb_line (S : List Nd) : ∀ (f : Nat) (x : Int) (st : List Int), climbF S rightUnder pathStep f x st = st ++ lineF S f x
  | 0, _, st => by simp [climbF, lineF]
  | f + 1, x, st => by
    simp only [climbF, lineF]
    cases isPl S.length x with
    | false => simp
    | true =>
      simp only [if_true, pathStep]
      rw [climb_line S f]
      simp

/-- The path of a place that there is. -/
def pathF (S : List Nd) (k : Nat) : List Int := (k : Int) :: lineF S S.length (rightUnder (nd S k))

theorem line_len (S : List Nd) : ∀ (f : Nat) (x : Int), (lineF S f x).length ≤ f
  | 0, _ => by simp [lineF]
  | f + 1, x => by
    simp only [lineF]
    split
    · have := line_len S f (rightUnder (nd S x.toNat))
      simp; omega
    · simp

theorem path_len (S : List Nd) (k : Nat) : (pathF S k).length ≤ S.length + 1 := by
  have := line_len S S.length (rightUnder (nd S k))
  unfold pathF
  simp; omega

theorem isPl_nat {N k : Nat} : isPl N (k : Int) = true ↔ k < N := by
  unfold isPl
  rw [decide_eq_true_eq]
  omega

theorem mem_line {S : List Nd} : ∀ {f : Nat} {x y : Int}, y ∈ lineF S f x → ∃ q j x' : Nat, y = q ∧ q < S.length ∧ x = x' ∧ x' < S.length ∧ j < f ∧ Up S j x' q
  | 0, _, _, h => by simp [lineF] at h
  | f + 1, x, y, h => by
    simp only [lineF] at h
    split at h
    · rename_i hx
      have hx2 : 0 ≤ x ∧ x ≤ (S.length : Int) - 1 := of_decide_eq_true hx
      obtain ⟨x', rfl⟩ : ∃ x' : Nat, x = x' := ⟨x.toNat, by omega⟩
      rcases List.mem_cons.1 h with rfl | h
      · exact ⟨x', 0, x', rfl, by omega, rfl, by omega, by omega, rfl⟩
      · rw [Int.toNat_natCast] at h
        obtain ⟨q, j, z, e1, e2, e3, e4, e5, e6⟩ := mem_line h
        exact ⟨q, j + 1, x', e1, e2, rfl, by omega, by omega, ⟨z, e4, e3, e6⟩⟩
    · cases h

theorem mem_path {S : List Nd} {k : Nat} (hk : k < S.length) {y : Int} (h : y ∈ pathF S k) : ∃ q j : Nat, y = q ∧ q < S.length ∧ Up S j k q := by
  unfold pathF at h
  rcases List.mem_cons.1 h with rfl | h
  · exact ⟨k, 0, rfl, hk, rfl⟩
  · obtain ⟨q, j, x', e1, e2, e3, e4, _, e6⟩ := mem_line h
    exact ⟨q, j + 1, e1, e2, ⟨x', e4, e3, e6⟩⟩

theorem line_more {S : List Nd} : ∀ {f : Nat} {x : Int}, (∀ (x' j z : Nat), x = x' → x' < S.length → Up S j x' z → j < f) → lineF S (f + 1) x = lineF S f x
  | 0, x, h => by
    simp only [lineF]
    split
    · rename_i hx
      have hx2 : 0 ≤ x ∧ x ≤ (S.length : Int) - 1 := of_decide_eq_true hx
      obtain ⟨x', rfl⟩ : ∃ x' : Nat, x = x' := ⟨x.toNat, by omega⟩
      exact absurd (h x' 0 x' rfl (by omega) rfl) (by omega)
    · rfl
  | f + 1, x, h => by
    rw [lineF]
    conv => rhs; rw [lineF]
    split
    · rename_i hx
      have hx2 : 0 ≤ x ∧ x ≤ (S.length : Int) - 1 := of_decide_eq_true hx
      obtain ⟨x', rfl⟩ : ∃ x' : Nat, x = x' := ⟨x.toNat, by omega⟩
      rw [Int.toNat_natCast]
      rw [line_more (fun y' j z e hy hu => ?_)]
      have := h x' (j + 1) z rfl (by omega) ⟨y', hy, e, hu⟩
      omega
    · rfl

/-- In a right store the path goes on as the path of what one stands right under. -/
theorem WF.path_up {S : List Nd} (h : WF S) {k q : Nat} (hk : k < S.length) (hq : q < S.length) (hr : rightUnder (nd S k) = q) : pathF S k = (k : Int) :: pathF S q := by
  unfold pathF
  rw [hr]
  congr 1
  obtain ⟨N, hN⟩ : ∃ N, S.length = N + 1 := ⟨S.length - 1, by omega⟩
  have e1 : lineF S S.length (q : Int) = (q : Int) :: lineF S N (rightUnder (nd S q)) := by
    rw [hN, lineF, hN, if_pos (isPl_nat.2 (by omega)), Int.toNat_natCast]
  rw [e1, hN]
  congr 1
  rw [line_more]
  intro x' j z e hx hu
  have := h.up_short hk (j := j + 2) (z := z) ⟨q, hq, hr, ⟨x', hx, e, hu⟩⟩
  omega

theorem WF.path_top {S : List Nd} {k : Nat} (hr : ¬ ∃ q : Nat, q < S.length ∧ rightUnder (nd S k) = q) : pathF S k = [(k : Int)] := by
  unfold pathF
  congr 1
  cases hN : S.length with
  | zero => rfl
  | succ N =>
    rw [lineF, if_neg]
    intro hx
    have hx2 : 0 ≤ rightUnder (nd S k) ∧ rightUnder (nd S k) ≤ (S.length : Int) - 1 := of_decide_eq_true hx
    exact hr ⟨(rightUnder (nd S k)).toNat, by omega, by omega⟩

theorem WF.path_suffix {S : List Nd} (h : WF S) : ∀ {j k q : Nat}, k < S.length → Up S j k q → ∃ pre, pathF S k = pre ++ pathF S q
  | 0, k, q, _, hu => ⟨[], by rw [show k = q from hu]; rfl⟩
  | j + 1, k, q, hk, ⟨z, hz, hr, hu⟩ => by
    obtain ⟨pre, hp⟩ := h.path_suffix hz hu
    exact ⟨(k : Int) :: pre, by rw [h.path_up hk hz hr, hp]; rfl⟩

theorem path_head (S : List Nd) (k : Nat) : (k : Int) ∈ pathF S k := by
  unfold pathF
  exact List.mem_cons_self

theorem WF.up_used {S : List Nd} (h : WF S) : ∀ {j k q : Nat}, k < S.length → (nd S k).u = true → Up S j k q → (nd S q).u = true
  | 0, k, q, _, hku, hu => by rw [← show k = q from hu]; exact hku
  | j + 1, k, q, hk, hku, ⟨z, hz, hr, hu⟩ => by
    refine h.up_used hz ?_ hu
    unfold rightUnder at hr
    by_cases e : (nd S k).h = -1
    · rw [if_pos e] at hr
      have hp : (nd S k).p ≠ -1 := by omega
      obtain ⟨pa, e1, _, _, _, e2⟩ := h.parent_place hk hp
      have : pa = z := by omega
      rw [← this]
      exact e2
    · rw [if_neg e] at hr
      have := (h.hosts k hk e).1
      rw [hr, Int.toNat_natCast] at this
      exact this

theorem WF.path_used {S : List Nd} (h : WF S) {k : Nat} (hk : k < S.length) (hku : (nd S k).u = true) {y : Int} (hy : y ∈ pathF S k) : ∃ q : Nat, y = q ∧ q < S.length ∧ (nd S q).u = true := by
  obtain ⟨q, j, e1, e2, e3⟩ := mem_path hk hy
  exact ⟨q, e1, e2, h.up_used hk hku e3⟩

/-- The roots in which the second of two nodes stands and the first doesn't. -/
def outB (S : List Nd) (P : List Int) (x : Int) : Bool := P.contains x || decide ((nd S x.toNat).h = -1)
def rootsF (S : List Nd) (p q : Nat) : List Int := flt (outB S (pathF S p)) (pathF S q)
def seenF (S : List Nd) (p q : Nat) : Bool := !((rootsF S p q).any fun x => (nd S x.toNat).c)
def targetF (S : List Nd) (k told : Nat) : Int := if rootsF S told k = [] then (k : Int) else (nd S ((rootsF S told k).getLastD 0).toNat).h

theorem mem_roots {S : List Nd} {p q : Nat} {x : Int} : x ∈ rootsF S p q ↔ x ∈ pathF S q ∧ x ∉ pathF S p ∧ (nd S x.toNat).h ≠ -1 := by
  unfold rootsF
  rw [mem_flt]
  unfold outB
  simp

theorem roots_self (S : List Nd) (k : Nat) : rootsF S k k = [] := by
  rw [List.eq_nil_iff_forall_not_mem]
  intro x hx
  obtain ⟨h1, h2, _⟩ := mem_roots.1 hx
  exact h2 h1

theorem seen_self (S : List Nd) (k : Nat) : seenF S k k = true := by
  unfold seenF
  rw [roots_self]
  rfl

theorem target_self (S : List Nd) (k : Nat) : targetF S k k = k := by
  unfold targetF
  rw [if_pos (roots_self S k)]

theorem getLastD_ne {l : List Int} (h : l ≠ []) : l.getLastD 0 = l.getLast h := by
  cases l with
  | nil => exact absurd rfl h
  | cons a r => rfl

/-- Where one is told of what happened: it is on the path, and nothing stands between. -/
theorem WF.target {S : List Nd} (h : WF S) {p q : Nat} (hq : q < S.length) (hqu : (nd S q).u = true) :
    ∃ t : Nat, targetF S q p = t ∧ t < S.length ∧ (nd S t).u = true ∧ (t : Int) ∈ pathF S q ∧ rootsF S p t = [] ∧ (t = q → rootsF S p q = []) := by
  unfold targetF
  by_cases hr : rootsF S p q = []
  · rw [if_pos hr]
    exact ⟨q, rfl, hq, hqu, path_head S q, hr, fun _ => hr⟩
  · rw [if_neg hr]
    have hl : (rootsF S p q).getLastD 0 = (rootsF S p q).getLast hr := getLastD_ne hr
    obtain ⟨m1, m2, m3⟩ := mem_roots.1 (List.getLast_mem hr)
    obtain ⟨r, j, e1, e2, e3⟩ := mem_path hq m1
    rw [hl, e1, Int.toNat_natCast]
    rw [e1] at m2 m3
    rw [Int.toNat_natCast] at m3
    have hb := (names_ks (names_of (h.node r e2))).2.1
    obtain ⟨t, ht⟩ : ∃ t : Nat, (nd S r).h = t := ⟨(nd S r).h.toNat, by omega⟩
    have hru : rightUnder (nd S r) = t := by
      unfold rightUnder
      rw [if_neg m3]
      exact ht
    have htl : t < S.length := by omega
    have htu : (nd S t).u = true := by
      have := (h.hosts r e2 m3).1
      rw [ht, Int.toNat_natCast] at this
      exact this
    obtain ⟨pre, hpre⟩ := h.path_suffix hq e3
    rw [h.path_up e2 htl hru] at hpre
    have nor : (r : Int) ∉ pathF S t := fun hm => by
      obtain ⟨r', j', e4, _, e5⟩ := mem_path htl hm
      have : r' = r := by omega
      subst this
      exact h.ringless e2 (j := j' + 1) (by omega) ⟨t, htl, hru, e5⟩
    refine ⟨t, ht, htl, htu, by rw [hpre]; exact List.mem_append_right _ (List.mem_cons_of_mem _ (path_head S t)), ?_, fun e => ?_⟩
    · by_cases h0 : rootsF S p t = []
      · exact h0
      · exfalso
        have hsplit : rootsF S p q = (flt (outB S (pathF S p)) pre ++ [(r : Int)]) ++ rootsF S p t := by
          unfold rootsF
          rw [hpre]
          unfold flt
          rw [List.filter_append, List.filter_cons, if_pos]
          · simp
          · unfold outB
            simp [m2, m3]
        have hlast : (rootsF S p q).getLast hr = (rootsF S p t).getLast h0 := by
          have : ∀ (l : List Int) (hl : l ≠ []), l = (flt (outB S (pathF S p)) pre ++ [(r : Int)]) ++ rootsF S p t → l.getLast hl = (rootsF S p t).getLast h0 := by
            intro l hl e
            subst e
            first | exact List.getLast_append_of_ne_nil _ h0 | exact List.getLast_append_of_ne_nil hl h0 | simp [h0]
          exact this _ hr hsplit
        have hm := (mem_roots.1 (List.getLast_mem h0)).1
        rw [← hlast, e1] at hm
        exact nor hm
    · exfalso
      subst e
      rw [e1] at m1
      exact nor m1

theorem line_congr {S A : List Nd} (hl : A.length = S.length) : ∀ {f : Nat} {x : Int}, (∀ y ∈ lineF S f x, rightUnder (nd A y.toNat) = rightUnder (nd S y.toNat)) → lineF A f x = lineF S f x
  | 0, _, _ => rfl
  | f + 1, x, h => by
    simp only [lineF, hl] at h ⊢
    cases hq : isPl S.length x with
    | false => rfl
    | true =>
      rw [hq] at h
      simp only [if_true] at h ⊢
      rw [h x List.mem_cons_self, line_congr hl (fun y hy => h y (List.mem_cons_of_mem _ hy))]

theorem path_congr {S A : List Nd} (hl : A.length = S.length) {k : Nat} (h : ∀ y ∈ pathF S k, rightUnder (nd A y.toNat) = rightUnder (nd S y.toNat)) : pathF A k = pathF S k := by
  unfold pathF at h ⊢
  have h0 := h (k : Int) List.mem_cons_self
  rw [Int.toNat_natCast] at h0
  rw [h0, hl, line_congr hl (fun y hy => h y (List.mem_cons_of_mem _ hy))]
end Go.Proofs.Ytjlapfgghljidab

namespace Go.Proofs.Ytjlapfgghljidab
open Go.RowKit

set_option maxHeartbeats 400000 in
theorem indexFunc_in (K : Nat) (caps : Array Value) (p : Int → Bool) (a : Option Addr) (c : Nat) (ks : List Int) (w : World) (hbig : ks.length ≤ 9223372036854775807) (hks : IntsAt w a ks)
    (eg : ∀ args w, (callFunc K args).run Try.prog w = .ok (.enter K args) w) (hf : ∀ x ∈ ks, ∀ w1, Below w.heap.size w w1 → Calls Try.prog K (#[.int .i64 x] ++ caps) w1 fun e w2 => e = .returned (.bool (p x)) ∧ Below w1.heap.size w1 w2) :
    Calls Try.prog 52 #[.slice a ks.length c, .func (.func K) #[] caps] w fun e w' => ∃ r : Int, e = .returned (.int .i64 r) ∧ Below w.heap.size w w' ∧
      ((r = -1 ∧ ∀ i, i < ks.length → p (ks.getD i 0) = false) ∨ (∃ k : Nat, k < ks.length ∧ r = k ∧ p (ks.getD k 0) = true ∧ ∀ i, i < k → p (ks.getD i 0) = false)) := by
  generalize hn : ks.length = n at *
  go_enter Try.func52, Try.ntmps52
  go_wp2
  go_loopg [8] n (fun g s8 wr => ∃ k : Nat, k ≤ n ∧ n - k ≤ g ∧ s8 = .int .i64 k ∧ Below w.heap.size w wr ∧ Hid (∀ i, i < k → p (ks.getD i 0) = false))
  case atStart => exact ⟨0, by omega, by omega, rfl, Below.refl _ _, fun i hi => by omega⟩
  case round =>
    obtain ⟨k, hk, hg, rfl, hb, A⟩ := hrel
    by_cases hlt : k < n
    · obtain ⟨b, o, rfl, hc⟩ := (hks.below hb) k (by omega)
      have hcall := hf (ks.getD k 0) (by rw [getD_elem ks 0 (by omega)]; exact List.getElem_mem _) wr hb
      have KS : Hid (IntsAt w (some ⟨b, o, none⟩) ks) := hks
      clear hks hf
      generalize hy : ks.getD k 0 = y at hc hcall
      have Y : Hid (ks.getD k 0 = y) := hy
      clear hy
      cases hq : p y with
      | true =>
        rw [hq] at hcall
        go_wp2_with (go_at_fn K; refine hcall.mono ?_; rintro e w' ⟨rfl, hb2⟩)
        go_ret
        exact ⟨k, rfl, hb.trans (hb2.mono hb.size), Or.inr ⟨k, hlt, rfl, by rw [Y.out]; exact hq, A.out⟩⟩
      | false =>
        rw [hq] at hcall
        go_wp2_with (go_at_fn K; refine hcall.mono ?_; rintro e w' ⟨rfl, hb2⟩)
        go_roundg (n - (k + 1))
        case measure => omega
        case rel =>
          refine ⟨k + 1, by omega, by omega, by go_num, hb.trans (hb2.mono hb.size), (show Hid _ from fun i hi => ?_)⟩
          by_cases e : i = k
          · subst e
            rw [Y.out]; exact hq
          · exact A.out i (by omega)
    · have : k = n := by omega
      subst this
      clear hks hf
      go_wp2
      go_ret
      exact ⟨-1, rfl, hb, Or.inl ⟨rfl, A.out⟩⟩


set_option maxHeartbeats 2000000 in
theorem deleteFunc_in (K : Nat) (caps : Array Value) (p : Int → Bool) (kb L cap : Nat) (ks : List Int) (G : Nat → Value) (w : World) (hL : ks.length = L) (hc : L ≤ cap) (hsm : cap ≤ 9223372036854775807) (hG : w.rowIs kb 3 cap G) (hGk : ∀ j, j < L → G j = .int .i64 (ks.getD j 0))
    (eg : ∀ args w, (callFunc K args).run Try.prog w = .ok (.enter K args) w) (hT : ∀ x ∈ ks, ∀ w1, Off (fun b => b = kb) w w1 → Calls Try.prog K (#[.int .i64 x] ++ caps) w1 fun e w2 => e = .returned (.bool (p x)) ∧ Below w1.heap.size w1 w2) :
    Calls Try.prog 72 #[.slice (some ⟨kb, 0, none⟩) L cap, .func (.func K) #[] caps] w (Deleted w kb cap (flt p ks)) := by
  have di := indexFunc_in K caps p (some ⟨kb, 0, none⟩) cap ks w (by omega) (ints_of_row hG (by omega) (by rw [hL]; exact hGk)) eg (fun x hx w1 hb => hT x hx w1 (Off.of_below hb))
  rw [hL] at di
  have HG : Hid (w.rowIs kb 3 cap G) := hG
  have HGk : Hid _ := hGk
  have HT : Hid _ := hT
  have HL : Hid _ := hL
  have hkb := hG.lt
  clear hG hGk hT hL
  go_enter Try.func72, Try.ntmps72
  go_wp2_with fail
  refine di.mono ?_
  rintro e w1 ⟨r, rfl, hb1, hr⟩
  clear di
  rcases hr with ⟨rfl, hall⟩ | ⟨k, hk, rfl, hp, hf⟩
  · have hfl := flt_all p ks (by rw [HL.out]; exact hall)
    have E : Hid _ := hfl
    clear hall hfl
    go_wp2
    go_ret
    refine ⟨by rw [E.out, HL.out]; rfl, Off.of_below hb1, G, HG.out.of_block (hb1.block kb hkb), fun j hj => ?_⟩
    rw [E.out] at hj ⊢
    exact HGk.out j (by rw [← HL.out]; exact hj)
  · have hk1 : ((k : Int) == -1) = false := beq_eq_false_iff_ne.2 (by omega)
    have F0 : Hid (flt p (ks.take (k + 1)) = ks.take k) := by
      show _ = _
      rw [flt_succ p ks k (by rw [HL.out]; exact hk), hp, if_pos rfl, List.append_nil]
      refine flt_all p _ (fun i hi => ?_)
      rw [List.length_take] at hi
      have hks := HL.out
      have h1 := hf i (by omega)
      rw [getD_elem ks 0 (by omega)] at h1
      rw [getD_elem (ks.take k) 0 (by rw [List.length_take]; omega), List.getElem_take]
      exact h1
    have HR0 : Hid (w1.rowIs kb 3 cap G) := HG.out.of_block (hb1.block kb hkb)
    have FI : Hid (∀ t, t < k → G t = .int .i64 ((flt p (ks.take (k + 1))).getD t 0)) := fun t ht => by
      have hks := HL.out
      rw [F0.out, HGk.out t (by omega), getD_elem ks 0 (by omega), getD_elem (ks.take k) 0 (by rw [List.length_take]; omega), List.getElem_take]
    have FL : Hid ((flt p (ks.take (k + 1))).length = k) := by
      have hks := HL.out
      show _ = _
      rw [F0.out, List.length_take]; omega
    have O1 : Hid (Off (fun b => b = kb) w w1) := Off.of_below hb1
    clear hp hf hb1
    go_wp2
    go_loopg [5, 6] L (fun g1 s5 s6 wr => ∃ (i j : Nat) (G2 : Nat → Value), i < j ∧ j ≤ L ∧ L - j ≤ g1 ∧ s5 = .int .i64 i ∧ s6 = .int .i64 j ∧ Hid (Off (fun b => b = kb) w wr) ∧ Hid (wr.rowIs kb 3 cap G2) ∧ Hid ((flt p (ks.take j)).length = i) ∧ Hid (∀ t, t < i → G2 t = .int .i64 ((flt p (ks.take j)).getD t 0)) ∧ Hid (∀ t, j ≤ t → t < L → G2 t = .int .i64 (ks.getD t 0)))
    case atStart => exact ⟨k, k + 1, G, by omega, by omega, by omega, rfl, by go_num, O1, HR0, FL, FI, (show Hid _ from fun t _ ht => HGk.out t ht)⟩
    case round =>
      clear HR0 FI FL O1
      obtain ⟨i, j, G2, hij, hjL, hg1, rfl, rfl, O2, R2, L2, I2, J2⟩ := hrel
      have hkw : kb < wr.heap.size := R2.out.lt
      have hfz := R2.out.frozen
      by_cases hlt : j < L
      · have hlt2 : (j : Int) < (L : Int) := by omega
        have cj := R2.out.cell (i := j) (by omega)
        rw [J2.out j (Nat.le_refl _) hlt] at cj
        have ci := R2.out.cell (i := i) (by omega)
        have hcall := HT.out (ks.getD j 0) (by rw [getD_elem ks 0 (by rw [HL.out]; exact hlt)]; exact List.getElem_mem _) wr O2.out
        have FS := flt_succ p ks j (by rw [HL.out]; exact hlt)
        generalize hy : ks.getD j 0 = y at *
        have HY : Hid _ := hy
        clear hy
        cases hq : p y with
        | true =>
          rw [hq] at hcall FS
          rw [if_pos rfl, List.append_nil] at FS
          have HFS : Hid _ := FS
          clear FS
          go_wp2_with (go_at_fn K; refine hcall.mono ?_; rintro e w2 ⟨rfl, hb2⟩)
          go_roundg (L - (j + 1))
          case measure => omega
          case rel => exact ⟨i, j + 1, G2, by omega, by omega, by omega, rfl, by go_num, O2.out.trans (Off.of_below hb2), R2.out.of_block (hb2.block kb hkw), (show _ = _ by rw [HFS.out]; exact L2.out), (show Hid _ from fun t ht => by rw [HFS.out]; exact I2.out t ht), (show Hid _ from fun t h1 h2 => J2.out t (by omega) h2)⟩
        | false =>
          rw [hq] at hcall FS
          rw [if_neg (by simp)] at FS
          have HFS : Hid _ := FS
          clear FS
          go_wp2_with (go_at_fn K; refine hcall.mono ?_; rintro e w2 ⟨rfl, hb2⟩; have ci2 := (hb2.cell (by exact hkw)).trans ci; have hfz2 := fun o => (hb2.frozen (by exact hkw)).trans (hfz o))
          go_roundg (L - (j + 1))
          case measure => omega
          case rel =>
            refine ⟨i + 1, j + 1, _, by omega, by omega, by omega, by go_num, by go_num, (O2.out.trans (Off.of_below hb2)).trans (off_setCell (X := fun b => b = kb) _ rfl _), (R2.out.of_block (hb2.block kb hkw)).set i (.int .i64 y), (show _ = _ by rw [HFS.out, List.length_append, L2.out]; rfl), (show Hid _ from fun t ht => ?_), (show Hid _ from fun t h1 h2 => ?_)⟩
            · rw [HFS.out]
              by_cases e : t = i
              · subst e
                rw [if_pos rfl]
                simp [List.getD, L2.out]
              · rw [if_neg e, I2.out t (by omega)]
                simp [List.getD, List.getElem?_append, L2.out, show t < i by omega]
            · rw [if_neg (by omega)]
              exact J2.out t (by omega) h2
      · have hjL2 : j = L := by omega
        subst hjL2
        have hic : (i : Int) ≤ (cap : Int) := by omega
        have hiL : (i : Int) ≤ (j : Int) := by omega
        have EF : Hid (flt p (ks.take j) = flt p ks) := by
          show _ = _
          rw [← HL.out, List.take_length]
        have hcl : ∀ ty, (Builtin.clear_ #[27] ty #[.slice (some ⟨kb, i, none⟩) (j - i) (cap - i)]).run Try.prog wr = .ok (.tuple #[]) (wr.setCells kb i (List.replicate (j - i) (.int .i64 0))) := fun ty => Lib.run_clear_slice wr 27 3 ty (.int .i64 0) Try.underlying27 Try.zeroValue3 rfl rfl kb i (j - i) (cap - i) (by omega) (fun t ht => by rw [R2.out.cell (by omega)]; rfl) (fun t ht => hfz _)
        go_wp2
        go_ret
        refine ⟨?_, O2.out.trans (off_setCells (X := fun b => b = kb) rfl _ _ _), _, row_setCells _ _ _ _ R2.out, fun t ht => ?_⟩
        · rw [← EF.out, L2.out]; rfl
        · rw [← EF.out, L2.out] at ht
          rw [if_neg (by omega), I2.out t ht, EF.out]

theorem deleteFunc_nil (K : Nat) (caps : Array Value) (w : World) (eg : ∀ args w, (callFunc K args).run Try.prog w = .ok (.enter K args) w) :
    Calls Try.prog 72 #[.slice none 0 0, .func (.func K) #[] caps] w fun e w' => e = .returned (.slice none 0 0) ∧ Below w.heap.size w w' := by
  have di := indexFunc_in K caps (fun _ => true) none 0 [] w (by simp) (fun i hi => absurd hi (Nat.not_lt_zero _)) eg (fun x hx => by cases hx)
  go_enter Try.func72, Try.ntmps72
  go_wp2_with fail
  refine di.mono ?_
  rintro e w1 ⟨r, rfl, hb1, hr⟩
  have hr1 : r = -1 := by
    rcases hr with ⟨h, _⟩ | ⟨k, hk, _⟩
    · exact h
    · exact absurd hk (Nat.not_lt_zero _)
  subst hr1
  clear hr di
  go_wp2
  go_ret
  exact ⟨rfl, hb1⟩
end Go.Proofs.Ytjlapfgghljidab

namespace Go.Proofs.Ytjlapfgghljidab
open Go.RowKit

theorem ownsRow_base {w : World} {B B' e size n : Nat} {v : Value} {xs : List Value} (h : w.ownsRow B e size v n xs) (hB : B' ≤ B) : w.ownsRow B' e size v n xs := by
  obtain ⟨h1, h2⟩ := h
  refine ⟨h1, ?_⟩
  rcases h2 with h2 | ⟨g, cap, cur, h3, h4, h5⟩
  · exact Or.inl h2
  · exact Or.inr ⟨g, cap, cur, h3, Nat.le_trans hB h4, h5⟩

theorem infoBool : (Try.prog.info? 4).map (fun i => (i.zero, i.size, i.bytes)) = some (some (.bool false), 1, 1) := by kernel_rfl

theorem makeBools (n : Nat) (hn : n ≤ 24) (w : World) : (Instr.makeSlice 95 (.int .i64 (n : Int)) (.int .i64 (n : Int))).run Try.prog w = .ok (.slice (some ⟨w.heap.size, 0, none⟩) n n) (w.alloc (.cells (madeCells #[.bool false] n) 4)) :=
  run_make_row' (P := Try.prog) 95 4 (.bool false) 1 Try.underlying95 infoBool rfl .i64 .i64 n (by omega) (by omega) w

theorem row_of_own {w : World} {B g n cap : Nat} {ks : List Int} (h : w.ownsRow B 3 1 (.slice (some ⟨g, 0, none⟩) n cap) n (ks.map (Value.int .i64))) : B ≤ g ∧ n ≤ cap ∧ cap ≤ maxLen ∧ ks.length = n ∧ ∃ G, w.rowIs g 3 cap G ∧ ∀ j, j < n → G j = .int .i64 (ks.getD j 0) := by
  obtain ⟨hl, h⟩ := h
  rw [List.length_map, Nat.mul_one] at hl
  rcases h with ⟨h, _⟩ | ⟨g', cap', cur, e, h1, h2, h3, h4, h5, h6⟩
  · cases h
  · cases e
    rw [Nat.mul_one] at h5 h6
    refine ⟨h1, h3, h4, hl, fun j => cur[j]?.getD undef, ⟨cur, h2, h5, fun i hi => ?_⟩, fun j hj => ?_⟩
    · show cur[i]? = some (cur[i]?.getD undef)
      rw [Array.getElem?_eq_getElem (by omega)]
      rfl
    · have h7 : (cur.toList.take n)[j]? = (ks.map (Value.int .i64))[j]? := by rw [h6]
      rw [List.getElem?_take, if_pos hj, List.getElem?_map, List.getElem?_eq_getElem (l := ks) (by omega)] at h7
      show cur[j]?.getD undef = _
      rw [← Array.getElem?_toList, h7, getD_elem ks 0 (by omega)]
      rfl

theorem own_slice {w : World} {B : Nat} {v : Value} {ks : List Int} (h : w.ownsRow B 3 1 v ks.length (ks.map (Value.int .i64))) : ∃ pa pc, v = .slice pa ks.length pc ∧ IntsAt w pa ks ∧ (∀ k, v.ownBlock = some k → B ≤ k ∧ k < w.heap.size) := by
  have hlt := h.lt
  rcases h.2 with ⟨e, e0⟩ | ⟨g, cap, cur, e, _⟩
  · have hk : ks = [] := List.length_eq_zero_iff.1 e0
    subst hk
    exact ⟨none, 0, e, fun i hi => absurd hi (Nat.not_lt_zero _), hlt⟩
  · subst e
    obtain ⟨_, h2, _, _, G, hG, hGk⟩ := row_of_own h
    exact ⟨some ⟨g, 0, none⟩, cap, rfl, ints_of_row hG h2 hGk, hlt⟩

end Go.Proofs.Ytjlapfgghljidab
