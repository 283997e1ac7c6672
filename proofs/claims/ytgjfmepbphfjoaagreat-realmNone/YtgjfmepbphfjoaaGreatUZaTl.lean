/-
  What a node stands under, without the program: the line of a node.
-/
import Derived.Test.YtgjfmepbphfjoaaGreatUXdUe
import Derived.Test.YtgjfmepbphfjoaaGreatUTk
namespace Go.Proofs.YtgjfmepbphfjoaaGreat
open Go.RowKit

def pathStep : List Int → Int → List Int × Bool := fun st x => (st ++ [x], true)

/-- What stands at a place, and what it stands right under, and so on. -/
def lineF (S : List Nd) : Nat → Int → List Int
  | 0, _ => []
  | f + 1, x => if isPl S.length x then x :: lineF S f (rightUnder (nd S x.toNat)) else []

theorem climb_line (S : List Nd) : ∀ (f : Nat) (x : Int) (st : List Int), climbF S rightUnder pathStep f x st = st ++ lineF S f x
  | 0, _, st => by simp [climbF, lineF]
  | f + 1, x, st => by
    simp only [climbF, lineF]
    cases isPl S.length x with
    | false => simp
    | true =>
      simp only [if_true, pathStep]
      rw [climb_line S f]
      simp

/-- The path of a place that there is. -/
def pathF (S : List Nd) (k : Nat) : List Int := (k : Int) :: lineF S S.length (rightUnder (nd S k))

theorem line_len (S : List Nd) : ∀ (f : Nat) (x : Int), (lineF S f x).length ≤ f
  | 0, _ => by simp [lineF]
  | f + 1, x => by
    simp only [lineF]
    split
    · have := line_len S f (rightUnder (nd S x.toNat))
      simp; omega
    · simp

theorem path_len (S : List Nd) (k : Nat) : (pathF S k).length ≤ S.length + 1 := by
  have := line_len S S.length (rightUnder (nd S k))
  unfold pathF
  simp; omega

theorem isPl_nat {N k : Nat} : isPl N (k : Int) = true ↔ k < N := by
  unfold isPl
  rw [decide_eq_true_eq]
  omega

theorem mem_line {S : List Nd} : ∀ {f : Nat} {x y : Int}, y ∈ lineF S f x → ∃ q j x' : Nat, y = q ∧ q < S.length ∧ x = x' ∧ x' < S.length ∧ j < f ∧ Up S j x' q
  | 0, _, _, h => by simp [lineF] at h
  | f + 1, x, y, h => by
    simp only [lineF] at h
    split at h
    · rename_i hx
      have hx2 : 0 ≤ x ∧ x ≤ (S.length : Int) - 1 := of_decide_eq_true hx
      obtain ⟨x', rfl⟩ : ∃ x' : Nat, x = x' := ⟨x.toNat, by omega⟩
      rcases List.mem_cons.1 h with rfl | h
      · exact ⟨x', 0, x', rfl, by omega, rfl, by omega, by omega, rfl⟩
      · rw [Int.toNat_natCast] at h
        obtain ⟨q, j, z, e1, e2, e3, e4, e5, e6⟩ := mem_line h
        exact ⟨q, j + 1, x', e1, e2, rfl, by omega, by omega, ⟨z, e4, e3, e6⟩⟩
    · cases h

theorem mem_path {S : List Nd} {k : Nat} (hk : k < S.length) {y : Int} (h : y ∈ pathF S k) : ∃ q j : Nat, y = q ∧ q < S.length ∧ Up S j k q := by
  unfold pathF at h
  rcases List.mem_cons.1 h with rfl | h
  · exact ⟨k, 0, rfl, hk, rfl⟩
  · obtain ⟨q, j, x', e1, e2, e3, e4, _, e6⟩ := mem_line h
    exact ⟨q, j + 1, e1, e2, ⟨x', e4, e3, e6⟩⟩

theorem line_more {S : List Nd} : ∀ {f : Nat} {x : Int}, (∀ (x' j z : Nat), x = x' → x' < S.length → Up S j x' z → j < f) → lineF S (f + 1) x = lineF S f x
  | 0, x, h => by
    simp only [lineF]
    split
    · rename_i hx
      have hx2 : 0 ≤ x ∧ x ≤ (S.length : Int) - 1 := of_decide_eq_true hx
      obtain ⟨x', rfl⟩ : ∃ x' : Nat, x = x' := ⟨x.toNat, by omega⟩
      exact absurd (h x' 0 x' rfl (by omega) rfl) (by omega)
    · rfl
  | f + 1, x, h => by
    rw [lineF]
    conv => rhs; rw [lineF]
    split
    · rename_i hx
      have hx2 : 0 ≤ x ∧ x ≤ (S.length : Int) - 1 := of_decide_eq_true hx
      obtain ⟨x', rfl⟩ : ∃ x' : Nat, x = x' := ⟨x.toNat, by omega⟩
      rw [Int.toNat_natCast]
      rw [line_more (fun y' j z e hy hu => ?_)]
      have := h x' (j + 1) z rfl (by omega) ⟨y', hy, e, hu⟩
      omega
    · rfl

/-- In a right store the path goes on as the path of what one stands right under. -/
theorem WF.path_up {S : List Nd} (h : WF S) {k q : Nat} (hk : k < S.length) (hq : q < S.length) (hr : rightUnder (nd S k) = q) : pathF S k = (k : Int) :: pathF S q := by
  unfold pathF
  rw [hr]
  congr 1
  obtain ⟨N, hN⟩ : ∃ N, S.length = N + 1 := ⟨S.length - 1, by omega⟩
  have e1 : lineF S S.length (q : Int) = (q : Int) :: lineF S N (rightUnder (nd S q)) := by
    rw [hN, lineF, hN, if_pos (isPl_nat.2 (by omega)), Int.toNat_natCast]
  rw [e1, hN]
  congr 1
  rw [line_more]
  intro x' j z e hx hu
  have := h.up_short hk (j := j + 2) (z := z) ⟨q, hq, hr, ⟨x', hx, e, hu⟩⟩
  omega

theorem WF.path_top {S : List Nd} {k : Nat} (hr : ¬ ∃ q : Nat, q < S.length ∧ rightUnder (nd S k) = q) : pathF S k = [(k : Int)] := by
  unfold pathF
  congr 1
  cases hN : S.length with
  | zero => rfl
  | succ N =>
    rw [lineF, if_neg]
    intro hx
    have hx2 : 0 ≤ rightUnder (nd S k) ∧ rightUnder (nd S k) ≤ (S.length : Int) - 1 := of_decide_eq_true hx
    exact hr ⟨(rightUnder (nd S k)).toNat, by omega, by omega⟩

theorem WF.path_suffix {S : List Nd} (h : WF S) : ∀ {j k q : Nat}, k < S.length → Up S j k q → ∃ pre, pathF S k = pre ++ pathF S q
  | 0, k, q, _, hu => ⟨[], by rw [show k = q from hu]; rfl⟩
  | j + 1, k, q, hk, ⟨z, hz, hr, hu⟩ => by
    obtain ⟨pre, hp⟩ := h.path_suffix hz hu
    exact ⟨(k : Int) :: pre, by rw [h.path_up hk hz hr, hp]; rfl⟩

theorem path_head (S : List Nd) (k : Nat) : (k : Int) ∈ pathF S k := by
  unfold pathF
  exact List.mem_cons_self

theorem WF.up_used {S : List Nd} (h : WF S) : ∀ {j k q : Nat}, k < S.length → (nd S k).u = true → Up S j k q → (nd S q).u = true
  | 0, k, q, _, hku, hu => by rw [← show k = q from hu]; exact hku
  | j + 1, k, q, hk, hku, ⟨z, hz, hr, hu⟩ => by
    refine h.up_used hz ?_ hu
    unfold rightUnder at hr
    by_cases e : (nd S k).h = -1
    · rw [if_pos e] at hr
      have hp : (nd S k).p ≠ -1 := by omega
      obtain ⟨pa, e1, _, _, _, e2⟩ := h.parent_place hk hp
      have : pa = z := by omega
      rw [← this]
      exact e2
    · rw [if_neg e] at hr
      have := (h.hosts k hk e).1
      rw [hr, Int.toNat_natCast] at this
      exact this

theorem WF.path_used {S : List Nd} (h : WF S) {k : Nat} (hk : k < S.length) (hku : (nd S k).u = true) {y : Int} (hy : y ∈ pathF S k) : ∃ q : Nat, y = q ∧ q < S.length ∧ (nd S q).u = true := by
  obtain ⟨q, j, e1, e2, e3⟩ := mem_path hk hy
  exact ⟨q, e1, e2, h.up_used hk hku e3⟩

/-- The roots in which the second of two nodes stands and the first doesn't. -/
def outB (S : List Nd) (P : List Int) (x : Int) : Bool := P.contains x || decide ((nd S x.toNat).h = -1)
def rootsF (S : List Nd) (p q : Nat) : List Int := flt (outB S (pathF S p)) (pathF S q)
def seenF (S : List Nd) (p q : Nat) : Bool := !((rootsF S p q).any fun x => (nd S x.toNat).c)
def targetF (S : List Nd) (k told : Nat) : Int := if rootsF S told k = [] then (k : Int) else (nd S ((rootsF S told k).getLastD 0).toNat).h

theorem mem_roots {S : List Nd} {p q : Nat} {x : Int} : x ∈ rootsF S p q ↔ x ∈ pathF S q ∧ x ∉ pathF S p ∧ (nd S x.toNat).h ≠ -1 := by
  unfold rootsF
  rw [mem_flt]
  unfold outB
  simp

theorem roots_self (S : List Nd) (k : Nat) : rootsF S k k = [] := by
  rw [List.eq_nil_iff_forall_not_mem]
  intro x hx
  obtain ⟨h1, h2, _⟩ := mem_roots.1 hx
  exact h2 h1

theorem seen_self (S : List Nd) (k : Nat) : seenF S k k = true := by
  unfold seenF
  rw [roots_self]
  rfl

theorem target_self (S : List Nd) (k : Nat) : targetF S k k = k := by
  unfold targetF
  rw [if_pos (roots_self S k)]

theorem getLastD_ne {l : List Int} (h : l ≠ []) : l.getLastD 0 = l.getLast h := by
  cases l with
  | nil => exact absurd rfl h
  | cons a r => rfl

/-- Where one is told of what happened: it is on the path, and nothing stands between. -/
theorem WF.target {S : List Nd} (h : WF S) {p q : Nat} (hq : q < S.length) (hqu : (nd S q).u = true) :
    ∃ t : Nat, targetF S q p = t ∧ t < S.length ∧ (nd S t).u = true ∧ (t : Int) ∈ pathF S q ∧ rootsF S p t = [] ∧ (t = q → rootsF S p q = []) := by
  unfold targetF
  by_cases hr : rootsF S p q = []
  · rw [if_pos hr]
    exact ⟨q, rfl, hq, hqu, path_head S q, hr, fun _ => hr⟩
  · rw [if_neg hr]
    have hl : (rootsF S p q).getLastD 0 = (rootsF S p q).getLast hr := getLastD_ne hr
    obtain ⟨m1, m2, m3⟩ := mem_roots.1 (List.getLast_mem hr)
    obtain ⟨r, j, e1, e2, e3⟩ := mem_path hq m1
    rw [hl, e1, Int.toNat_natCast]
    rw [e1] at m2 m3
    rw [Int.toNat_natCast] at m3
    have hb := (names_ks (names_of (h.node r e2))).2.1
    obtain ⟨t, ht⟩ : ∃ t : Nat, (nd S r).h = t := ⟨(nd S r).h.toNat, by omega⟩
    have hru : rightUnder (nd S r) = t := by
      unfold rightUnder
      rw [if_neg m3]
      exact ht
    have htl : t < S.length := by omega
    have htu : (nd S t).u = true := by
      have := (h.hosts r e2 m3).1
      rw [ht, Int.toNat_natCast] at this
      exact this
    obtain ⟨pre, hpre⟩ := h.path_suffix hq e3
    rw [h.path_up e2 htl hru] at hpre
    have nor : (r : Int) ∉ pathF S t := fun hm => by
      obtain ⟨r', j', e4, _, e5⟩ := mem_path htl hm
      have : r' = r := by omega
      subst this
      exact h.ringless e2 (j := j' + 1) (by omega) ⟨t, htl, hru, e5⟩
    refine ⟨t, ht, htl, htu, by rw [hpre]; exact List.mem_append_right _ (List.mem_cons_of_mem _ (path_head S t)), ?_, fun e => ?_⟩
    · by_cases h0 : rootsF S p t = []
      · exact h0
      · exfalso
        have hsplit : rootsF S p q = (flt (outB S (pathF S p)) pre ++ [(r : Int)]) ++ rootsF S p t := by
          unfold rootsF
          rw [hpre]
          unfold flt
          rw [List.filter_append, List.filter_cons, if_pos]
          · simp
          · unfold outB
            simp [m2, m3]
        have hlast : (rootsF S p q).getLast hr = (rootsF S p t).getLast h0 := by
          have : ∀ (l : List Int) (hl : l ≠ []), l = (flt (outB S (pathF S p)) pre ++ [(r : Int)]) ++ rootsF S p t → l.getLast hl = (rootsF S p t).getLast h0 := by
            intro l hl e
            subst e
            first | exact List.getLast_append_of_ne_nil _ h0 | exact List.getLast_append_of_ne_nil hl h0 | simp [h0]
          exact this _ hr hsplit
        have hm := (mem_roots.1 (List.getLast_mem h0)).1
        rw [← hlast, e1] at hm
        exact nor hm
    · exfalso
      subst e
      rw [e1] at m1
      exact nor m1

theorem line_congr {S A : List Nd} (hl : A.length = S.length) : ∀ {f : Nat} {x : Int}, (∀ y ∈ lineF S f x, rightUnder (nd A y.toNat) = rightUnder (nd S y.toNat)) → lineF A f x = lineF S f x
  | 0, _, _ => rfl
  | f + 1, x, h => by
    simp only [lineF, hl] at h ⊢
    cases hq : isPl S.length x with
    | false => rfl
    | true =>
      rw [hq] at h
      simp only [if_true] at h ⊢
      rw [h x List.mem_cons_self, line_congr hl (fun y hy => h y (List.mem_cons_of_mem _ hy))]

theorem path_congr {S A : List Nd} (hl : A.length = S.length) {k : Nat} (h : ∀ y ∈ pathF S k, rightUnder (nd A y.toNat) = rightUnder (nd S y.toNat)) : pathF A k = pathF S k := by
  unfold pathF at h ⊢
  have h0 := h (k : Int) List.mem_cons_self
  rw [Int.toNat_natCast] at h0
  rw [h0, hl, line_congr hl (fun y hy => h y (List.mem_cons_of_mem _ hy))]
end Go.Proofs.YtgjfmepbphfjoaaGreat

namespace Go.Proofs.YtgjfmepbphfjoaaGreat
open Go.RowKit

theorem hands_own {W : World} {B : Nat} {v : Value} {p pu x xu q qu : Int} (h : W.ownsRow B 39 2 v 3 ([.int .i64 p, .int .i64 pu, .int .i64 x, .int .i64 xu] ++ [.int .i64 q, .int .i64 qu])) : ∃ ha hc, v = .slice ha 3 hc ∧ HandsAt W ha [(p, pu), (x, xu), (q, qu)] := by
  obtain ⟨_, h⟩ := h
  rcases h with ⟨_, h⟩ | ⟨g, cap, cur, rfl, _, hg, h1, h2, h3, h4⟩
  · omega
  · refine ⟨_, _, rfl, fun i hi => ?_⟩
    have hc : ∀ j u, ([.int .i64 p, .int .i64 pu, .int .i64 x, .int .i64 xu, .int .i64 q, .int .i64 qu] : List Value)[j]? = some u → j < 6 → W.cell? ⟨g, j, none⟩ = some u := fun j u hj hl => by
      have h5 : (cur.toList.take (3 * 2))[j]? = some u := by rw [h4]; simpa using hj
      rw [List.getElem?_take, if_pos (by omega)] at h5
      simp only [World.cell?, hg]
      simpa using h5
    match i, hi with
    | 0, _ => exact ⟨g, 0, rfl, hc 0 _ rfl (by omega), hc 1 _ rfl (by omega)⟩
    | 1, _ => exact ⟨g, 0, rfl, hc 2 _ rfl (by omega), hc 3 _ rfl (by omega)⟩
    | 2, _ => exact ⟨g, 0, rfl, hc 4 _ rfl (by omega), hc 5 _ rfl (by omega)⟩

set_option maxRecDepth 100000 in
set_option maxHeartbeats 2000000 in
theorem insert_one_ok (a : Option Addr) (c : Nat) (S : List Nd) (pa ch at' : Nat) (pu cu : Int) (hb0 ho0 hc0 q : Nat) (qu : Int) (w : World) (hN : S.length ≤ 24) (hB : Big S) (hS : NdsAt w a S) (hH : HandsAt w (some ⟨hb0, ho0, none⟩) [((q : Int), qu)]) (hE : tcheckE S [((pa : Int), pu), ((ch : Int), cu), ((q : Int), qu)] = 0) (hch : ch < S.length) (hpa : pa < S.length) (hq : q < S.length) (hne : pa ≠ ch) (hfit : fitsB S ch pa = true) (hpn : (nd S ch).p = -1) (hqp : (nd S q).p = pa) (hqc : ((ch : Int), cu) ≠ ((q : Int), qu)) (hat : idx (nd S pa).ks q = at') (hatL : at' ≤ (nd S pa).ks.length) (hK : ∀ i, i < S.length → (nd S i).ks.length ≤ 1000) :
    Calls Tryz.prog 112 #[.agg #[.slice a S.length c], .agg #[.int .i64 (pa : Int), .int .i64 pu], .agg #[.int .i64 (ch : Int), .int .i64 cu], .slice (some ⟨hb0, ho0, none⟩) 1 hc0] w fun e w' => ∃ g, e = .returned (.tuple #[.agg #[.slice (some ⟨g, 0, none⟩) S.length S.length], .int .i64 0]) ∧ Below w.heap.size w w' ∧ w.heap.size ≤ g ∧ ∀ w3 : World, (∀ b, g ≤ b → w3.heap[b]? = w'.heap[b]?) → NdsAt w3 (some ⟨g, 0, none⟩) (enterS S pa ch at') := by
  have d1 := fun (W : World) (ha : Option Addr) (hcc : Nat) (hW : NdsAt W a S) (hH : HandsAt W ha [((pa : Int), pu), ((ch : Int), cu), ((q : Int), qu)]) => tcheck_any a c S ha hcc [((pa : Int), pu), ((ch : Int), cu), ((q : Int), qu)] W (by omega) hB hW (by simp) hH
  rw [hE] at d1
  have D1 : Hid _ := d1
  have df := fun (W : World) (hW : NdsAt W a S) => fitsUnder_any a c S ch pa W (by omega) hch hW
  rw [hfit] at df
  have DF : Hid _ := df
  have HS : Hid (NdsAt w a S) := hS
  have HH : Hid (HandsAt w (some ⟨hb0, ho0, none⟩) [((q : Int), qu)]) := hH
  have dc := fun (W : World) (hW : NdsAt W a S) => copy_any a c S W hN hK hW
  have DC : Hid _ := dc
  have dh := fun (W : World) (hW : HandsAt W (some ⟨hb0, ho0, none⟩) [((q : Int), qu)]) => containsHand_any (some ⟨hb0, ho0, none⟩) hc0 [((q : Int), qu)] (ch : Int) cu W (by simp) hW
  rw [decide_eq_false (by simpa using hqc)] at dh
  have DH : Hid _ := dh
  have de := fun (B g c : Nat) (kb kc : Nat → Nat) (W : World) (hO : Own W B g S kb kc S.length) (hW : HandsAt W (some ⟨hb0, ho0, none⟩) [((q : Int), qu)]) => enter_any B g c S kb kc pa ch at' (some ⟨hb0, ho0, none⟩) hc0 [((q : Int), qu)] W hO hpa hch hne (by simp) hW hat hatL
  have DE : Hid _ := de
  have OC : Hid (∀ (wr : World) (B g : Nat) (kb kc : Nat → Nat), Own wr B g S kb kc S.length → B ≤ g ∧ g < wr.heap.size ∧ g < kb pa ∧ kb pa < wr.heap.size ∧ wr.cell? ⟨g, ch * 8 + 4, none⟩ = some (.int .i64 (-1))) := fun wr B g kb kc h => by
    obtain ⟨hB, F, hF, hNd, hg, _⟩ := h
    obtain ⟨_, _, _, _, e4, _⟩ := hNd ch hch
    exact ⟨hB, hF.lt, hg pa hpa, (hNd pa hpa).row, by rw [hF.cell (by omega), e4, hpn]⟩
  have QP : Hid (∀ W, NdsAt W a S → ∃ b o, a = some ⟨b, o, none⟩ ∧ W.cell? ⟨b, o + q * 8 + 4, none⟩ = some (.int .i64 (pa : Int))) := fun W hW => by
    obtain ⟨b, o, e, _, _, _, _, c4, _⟩ := hW q hq
    exact ⟨b, o, e, by rw [c4, hqp]⟩
  have hq2 : (q : Int) < (S.length : Int) := by omega
  have HC : Hid (∀ W, HandsAt W (some ⟨hb0, ho0, none⟩) [((q : Int), qu)] → W.cell? ⟨hb0, ho0, none⟩ = some (.int .i64 (q : Int)) ∧ W.cell? ⟨hb0, ho0 + 1, none⟩ = some (.int .i64 qu)) := fun W hW => by
    obtain ⟨b, o, e, h1, h2⟩ := hW 0 (by simp)
    cases e
    exact ⟨by simpa using h1, by simpa using h2⟩
  obtain ⟨i0, hi0, hz0, hz1, hz2⟩ := info_parts info39
  clear hS d1 df hE hB hfit dc dh de hK hH hqp hqc hat
  generalize hn : S.length = n at *
  have HN : Hid _ := hn
  clear hn
  go_enter Tryz.func112, Tryz.ntmps112
  go_wp2_with fail
  obtain ⟨W4, hW4⟩ : ∃ W4, W4 = ((((w.alloc (.cells #[.slice a n c] 24)).alloc (.cells #[.int .i64 (pa : Int), .int .i64 pu] 39)).alloc (.cells #[.int .i64 (ch : Int), .int .i64 cu] 39)).alloc (.cells #[.slice none 0 0] 24)) := ⟨_, rfl⟩
  rw [← hW4]
  have hb4 : Below (w.heap.size + 1 + 1 + 1 + 1) ((((w.alloc (.cells #[.slice a n c] 24)).alloc (.cells #[.int .i64 (pa : Int), .int .i64 pu] 39)).alloc (.cells #[.int .i64 (ch : Int), .int .i64 cu] 39)).alloc (.cells #[.slice none 0 0] 24)) W4 := by rw [hW4]; exact Below.refl _ _
  obtain ⟨l0, l1, l2, l3, l4, l5, l6⟩ := ins_low4 hb4
  have hsz4 : W4.heap.size = w.heap.size + 1 + 1 + 1 + 1 := by rw [hW4]; simp
  have HB4 : Hid (Below w.heap.size w W4) := (four_below _ _ _ _ _).trans (hb4.mono (by omega))
  have HBB : Hid (Below (w.heap.size + 1 + 1 + 1 + 1) ((((w.alloc (.cells #[.slice a n c] 24)).alloc (.cells #[.int .i64 (pa : Int), .int .i64 pu] 39)).alloc (.cells #[.int .i64 (ch : Int), .int .i64 cu] 39)).alloc (.cells #[.slice none 0 0] 24)) W4) := hb4
  clear hW4 hb4
  have ne0 := World.new_ne W4 _ l0
  have ne1 := World.new_ne W4 _ l1
  have ne2 := World.new_ne W4 _ l2
  have ne3 := World.new_ne W4 _ l3
  have ne4 := World.new_ne W4 _ l4
  have HOLDS : Hid (∀ b, some (⟨w.heap.size + 1 + 1 + 1 + 1, 0, none⟩ : Addr) = some b → ∀ j u, ([.int .i64 (pa : Int), .int .i64 pu, .int .i64 (ch : Int), .int .i64 cu] : List Value)[j]? = some u → ((W4.alloc (.cells #[.int .i64 (pa : Int), .int .i64 pu, .int .i64 (ch : Int), .int .i64 cu] 39)).drew).cell? (b.add j) = some u) := fun b hb j u hj => by
    cases hb
    rw [Addr.add_lit, ← hsz4]
    match j, hj with
    | 0, hj => cases hj; go_simp
    | 1, hj => cases hj; go_simp
    | 2, hj => cases hj; go_simp
    | 3, hj => cases hj; go_simp
  have NEWS : Hid (∀ j u, ([.int .i64 (q : Int), .int .i64 qu] : List Value)[j]? = some u → ((W4.alloc (.cells #[.int .i64 (pa : Int), .int .i64 pu, .int .i64 (ch : Int), .int .i64 cu] 39)).drew).cell? ((⟨hb0, ho0, none⟩ : Addr).add j) = some u) := fun j u hj => by
    obtain ⟨c0, c1⟩ := HC.out _ (HH.out.below (HB4.out.alloc (by omega) (.cells #[.int .i64 (pa : Int), .int .i64 pu, .int .i64 (ch : Int), .int .i64 cu] 39)).drew)
    rw [Addr.add_lit]
    match j, hj with
    | 0, hj => cases hj; exact c0
    | 1, hj => cases hj; exact c1
  go_region_held3 (fun w'' => w''.cell? ⟨w.heap.size, 0, none⟩ = some (.slice a n c) ∧ w''.cell? ⟨w.heap.size + 1, 0, none⟩ = some (.int .i64 (pa : Int)) ∧ w''.cell? ⟨w.heap.size + 1, 1, none⟩ = some (.int .i64 pu) ∧ w''.cell? ⟨w.heap.size + 1 + 1, 0, none⟩ = some (.int .i64 (ch : Int)) ∧ w''.cell? ⟨w.heap.size + 1 + 1, 1, none⟩ = some (.int .i64 cu)) (go_keep) (first
    | (refine step_append_grows rfl (.tmp 21) (.tmp 22) 25 rfl 39 i0 (.agg #[.int .i64 0, .int .i64 0]) 2 16 Tryz.underlying25 hi0 hz0 hz1 hz2 rfl (by decide) (some ⟨w.heap.size + 1 + 1 + 1 + 1, 0, none⟩) 2 2 [.int .i64 (pa : Int), .int .i64 pu, .int .i64 (ch : Int), .int .i64 cu] rfl (fun h => by cases h) rfl HOLDS.out ⟨hb0, ho0, none⟩ 1 hc0 [.int .i64 (q : Int), .int .i64 qu] rfl rfl NEWS.out (by intro u hu; simp at hu; rcases hu with rfl | rfl <;> rfl) (by decide) (by decide) (by decide) ?_; intro v5 w5 hown5 hgrow5; have hB5 : Below (w.heap.size + 1 + 1 + 1 + 1) ((((w.alloc (.cells #[.slice a n c] 24)).alloc (.cells #[.int .i64 (pa : Int), .int .i64 pu] 39)).alloc (.cells #[.int .i64 (ch : Int), .int .i64 cu] 39)).alloc (.cells #[.slice none 0 0] 24)) w5 := (HBB.out.alloc (by omega) _).drew.grown hgrow5 (by simp; omega) (fun k hk => by cases hk); obtain ⟨k0, k1, k2, k3, k4, k5, k6⟩ := ins_low4 hB5; obtain ⟨ha5, hc5, hv5, hh5⟩ := hands_own hown5; subst hv5; have HH5 : Hid (HandsAt w5 ha5 [((pa : Int), pu), ((ch : Int), cu), ((q : Int), qu)]) := hh5; have H5 : Hid (Below (w.heap.size + 1 + 1 + 1 + 1) ((((w.alloc (.cells #[.slice a n c] 24)).alloc (.cells #[.int .i64 (pa : Int), .int .i64 pu] 39)).alloc (.cells #[.int .i64 (ch : Int), .int .i64 cu] 39)).alloc (.cells #[.slice none 0 0] 24)) w5) := hB5; clear hown5 hgrow5 hB5 hh5)
    | (go_at_call 105; refine (D1.out _ _ _ (HS.out.below ((four_below _ _ _ _ _).trans (H5.out.mono (by omega)))) HH5.out).mono ?_; rintro e w6 ⟨rfl, hb6⟩; have hs5 := H5.out.size; simp only [World.size_alloc] at hs5; have hB6 : Below (w.heap.size + 1 + 1 + 1 + 1) ((((w.alloc (.cells #[.slice a n c] 24)).alloc (.cells #[.int .i64 (pa : Int), .int .i64 pu] 39)).alloc (.cells #[.int .i64 (ch : Int), .int .i64 cu] 39)).alloc (.cells #[.slice none 0 0] 24)) w6 := H5.out.trans (hb6.mono hs5); obtain ⟨m0, m1, m2, m3, m4, m5, m6⟩ := ins_low4 hB6; have H6 : Hid (Below (w.heap.size + 1 + 1 + 1 + 1) ((((w.alloc (.cells #[.slice a n c] 24)).alloc (.cells #[.int .i64 (pa : Int), .int .i64 pu] 39)).alloc (.cells #[.int .i64 (ch : Int), .int .i64 cu] 39)).alloc (.cells #[.slice none 0 0] 24)) w6) := hB6; clear hb6 hB6))
  have hB6w : Below w.heap.size w w6 := (four_below _ _ _ _ _).trans (H6.out.mono (by omega))
  clear k0 k1 k2 k3 k4 k5 k6 hs5
  go_wp2_with (go_at_call 133; refine (DF.out _ (HS.out.below hB6w)).mono ?_; rintro e w7 ⟨rfl, hb7⟩; have hs6 := H6.out.size; simp only [World.size_alloc] at hs6; have hB7 : Below (w.heap.size + 1 + 1 + 1 + 1) ((((w.alloc (.cells #[.slice a n c] 24)).alloc (.cells #[.int .i64 (pa : Int), .int .i64 pu] 39)).alloc (.cells #[.int .i64 (ch : Int), .int .i64 cu] 39)).alloc (.cells #[.slice none 0 0] 24)) w7 := H6.out.trans (hb7.mono hs6); have H7 : Hid (Below (w.heap.size + 1 + 1 + 1 + 1) ((((w.alloc (.cells #[.slice a n c] 24)).alloc (.cells #[.int .i64 (pa : Int), .int .i64 pu] 39)).alloc (.cells #[.int .i64 (ch : Int), .int .i64 cu] 39)).alloc (.cells #[.slice none 0 0] 24)) w7) := hB7; clear hb7 hB7 hs6)
  clear m0 m1 m2 m3 m4 m5 m6 hB6w
  go_loopg [39] 1 (fun g1 s39 wr => ∃ k : Nat, k ≤ 1 ∧ 1 - k ≤ g1 ∧ s39 = .int .i64 k ∧ Hid (Below (w.heap.size + 1 + 1 + 1 + 1) ((((w.alloc (.cells #[.slice a n c] 24)).alloc (.cells #[.int .i64 (pa : Int), .int .i64 pu] 39)).alloc (.cells #[.int .i64 (ch : Int), .int .i64 cu] 39)).alloc (.cells #[.slice none 0 0] 24)) wr))
  case atStart => exact ⟨0, by omega, by omega, rfl, H7⟩
  case round =>
    clear H7
    obtain ⟨k, hk, hg1, rfl, H6⟩ := hrel
    have hB6w : Below w.heap.size w wr := (four_below _ _ _ _ _).trans (H6.out.mono (by omega))
    have hs6 := H6.out.size
    simp only [World.size_alloc] at hs6
    obtain ⟨j0, j1, j2, j3, j4, j5, j6⟩ := ins_low4 H6.out
    by_cases hk0 : k = 0
    · subst hk0
      obtain ⟨x0, x1⟩ := HC.out _ (HH.out.below hB6w)
      obtain ⟨b, o, rfl, qp⟩ := QP.out _ (HS.out.below hB6w)
      have hbb := World.block_lt_of_cell? _ _ qp
      have hxb := World.block_lt_of_cell? _ _ x0
      have J0 := one_more j0
      have J1 := one_more j1
      have QQ := one_more qp
      go_wp2_with fail
      go_quiet (fail)
      go_wp2
      go_roundg 0
      case measure => omega
      case rel => exact ⟨1, by omega, by omega, by go_num, Below.drewNs (H6.out.alloc (by omega) _) _⟩
    · have hk1 : k = 1 := by omega
      subst hk1
      go_wp2_with fail
      refine (DC.out _ (HS.out.below hB6w)).mono ?_
      rintro e w7 ⟨g, kb, kc, rfl, hb7, hO7⟩
      obtain ⟨hgB, hgl, hgk, hkl, c4⟩ := OC.out _ _ _ _ _ hO7
      have hs7 := hb7.size
      have H7 : Hid (Below (w.heap.size + 1 + 1 + 1 + 1) ((((w.alloc (.cells #[.slice a n c] 24)).alloc (.cells #[.int .i64 (pa : Int), .int .i64 pu] 39)).alloc (.cells #[.int .i64 (ch : Int), .int .i64 cu] 39)).alloc (.cells #[.slice none 0 0] 24)) w7) := H6.out.trans (hb7.mono hs6)
      have HO7 : Hid (Own w7 wr.heap.size g S kb kc n) := hO7
      obtain ⟨i0, i1, i2, i3, i4, i5, i6⟩ := ins_low4 H7.out
      have M7 : Hid (∀ w8 o1, Below (w7.heap.size + 1) (w7.alloc o1) w8 → Below (w.heap.size + 1 + 1 + 1 + 1) ((((w.alloc (.cells #[.slice a n c] 24)).alloc (.cells #[.int .i64 (pa : Int), .int .i64 pu] 39)).alloc (.cells #[.int .i64 (ch : Int), .int .i64 cu] 39)).alloc (.cells #[.slice none 0 0] 24)) w8 ∧ Below w7.heap.size w7 w8) := fun w8 o1 h => ⟨(H7.out.alloc (by omega) o1).trans (h.mono (by omega)), ((Below.refl _ _).alloc (Nat.le_refl _) o1).trans (h.mono (by omega))⟩
      have I3 := one_more i3
      have I4 := one_more i4
      clear j0 j1 j2 j3 j4 j5 j6 hb7 hO7
      go_wp2_with fail
      refine (DH.out _ (HH.out.below (((four_below _ _ _ _ _).trans (H7.out.mono (by omega))).alloc (by omega) _))).mono ?_
      rintro e w8 ⟨rfl, hb8⟩
      simp only [World.size_alloc] at hb8
      have b8 : w8.cell? ⟨w7.heap.size, 0, none⟩ = some (.slice (some ⟨g, 0, none⟩) n n) := store_low hb8
      obtain ⟨H8, hb78⟩ := M7.out _ _ hb8
      have hs8 := hb8.size
      simp only [World.size_alloc] at hs8
      have c48 := (hb78.cell (by exact hgl)).trans c4
      have HH8 : Hid (Below (w.heap.size + 1 + 1 + 1 + 1) ((((w.alloc (.cells #[.slice a n c] 24)).alloc (.cells #[.int .i64 (pa : Int), .int .i64 pu] 39)).alloc (.cells #[.int .i64 (ch : Int), .int .i64 cu] 39)).alloc (.cells #[.slice none 0 0] 24)) w8) := H8
      have HO8 : Hid (Own w8 wr.heap.size g S kb kc n) := Own.below HO7.out hb78
      clear i0 i1 i2 i3 i4 i5 i6 hb8 I3 I4
      obtain ⟨i0, i1, i2, i3, i4, i5, i6⟩ := ins_low4 H8
      clear H8
      go_wp2_with fail
      refine (leave_none g n n ch _ (by omega) c48).mono ?_
      rintro e w9 ⟨rfl, hb9⟩
      have hs9 := hb9.size
      have b9 := (hb9.cell (World.block_lt_of_cell? _ _ b8)).trans b8
      have H9 : Below (w.heap.size + 1 + 1 + 1 + 1) ((((w.alloc (.cells #[.slice a n c] 24)).alloc (.cells #[.int .i64 (pa : Int), .int .i64 pu] 39)).alloc (.cells #[.int .i64 (ch : Int), .int .i64 cu] 39)).alloc (.cells #[.slice none 0 0] 24)) w9 := HH8.out.trans (hb9.mono (by omega))
      have HO9 : Hid (Own w9 wr.heap.size g S kb kc n) := Own.below HO8.out hb9
      have HH9 : Hid (Below (w.heap.size + 1 + 1 + 1 + 1) ((((w.alloc (.cells #[.slice a n c] 24)).alloc (.cells #[.int .i64 (pa : Int), .int .i64 pu] 39)).alloc (.cells #[.int .i64 (ch : Int), .int .i64 cu] 39)).alloc (.cells #[.slice none 0 0] 24)) w9) := H9
      clear i0 i1 i2 i3 i4 i5 i6 b8 c48 hb9
      obtain ⟨i0, i1, i2, i3, i4, i5, i6⟩ := ins_low4 H9
      clear H9
      go_wp2_with fail
      refine (DE.out _ g n kb kc _ HO9.out (HH.out.below ((four_below _ _ _ _ _).trans (HH9.out.mono (by omega))))).mono ?_
      rintro e w10 ⟨rfl, hoff, hnds⟩
      have b10 := (hoff.cell (World.block_lt_of_cell? _ _ b9) (by show ¬ (w7.heap.size = g ∨ w7.heap.size = kb pa); omega)).trans b9
      have r10 := (hoff.cell (World.block_lt_of_cell? _ _ i5) (by show ¬ (w.heap.size + 1 + 1 + 1 = g ∨ w.heap.size + 1 + 1 + 1 = kb pa); omega)).trans i5
      have f10 := fun o => (hoff.frozen (p := ⟨w.heap.size + 1 + 1 + 1, o, none⟩) (World.block_lt_of_cell? w9 ⟨w.heap.size + 1 + 1 + 1, 0, none⟩ i5) (by show ¬ (w.heap.size + 1 + 1 + 1 = g ∨ w.heap.size + 1 + 1 + 1 = kb pa); omega)).trans (i6 o)
      have HNDS : Hid _ := hnds
      have HB10 : Hid (Below w.heap.size w w10) := ((four_below _ _ _ _ _).trans (HH9.out.mono (by omega))).trans (hoff.below (by have := HH9.out.size; simp at this; omega) (fun k hk => by rcases hk with hk | hk <;> omega))
      have NS : Hid (∀ v (w3 : World), (∀ b, g ≤ b → w3.heap[b]? = (w10.setCell ⟨w.heap.size + 1 + 1 + 1, 0, none⟩ v).heap[b]?) → NdsAt w3 (some ⟨g, 0, none⟩) (enterS S pa ch at')) := fun v w3 hup => HNDS.out _ (fun b hb => (hup b hb).trans (Below.heap_setCell _ _ _ _ (by show b ≠ w.heap.size + 1 + 1 + 1; omega)))
      clear hnds hoff i0 i1 i2 i3 i4 i5 i6 b9
      go_wp2
      refine bodyPost_ret (v := .tuple #[.agg #[.slice (some ⟨g, 0, none⟩) n n], .int .i64 0]) (by simp [results, Tryz.results112, go_sem, r10]) rfl ⟨g, rfl, HB10.out.setCell (by simp; omega) _, by omega, NS.out _⟩
end Go.Proofs.YtgjfmepbphfjoaaGreat
