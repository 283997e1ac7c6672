/-
  What is done at a spot: each hearer of it is told, and marked.
-/
import Derived.Test.YtplkfacaphejgaaUHd
import Derived.Test.YtplkfacaphejgaaURsHfHk
import Derived.Test.YtplkfacaphejgaaUHn
import Derived.Test.YtplkfacaphejgaaUHo
import Derived.Test.YtplkfacaphejgaaUHcNx
namespace Go.Proofs.Ytplkfacaphejgaa
open Go.RowKit Go.ChangeShapes Go.WideShapes
set_option linter.unusedVariables false

theorem infoCall : (Try.prog.info? 36).map (fun i => (i.zero, i.size, i.bytes)) = some (some (.agg #[.int .i64 0, .int .i64 0, .int .i64 0, .int .i64 0]), 4, 32) := by kernel_rfl
def kcell (x : Cal) : List Value := [.int .i64 x.id, .int .i64 x.pl, .int .i64 x.tg, .int .i64 x.ph]
def kcells (C : List Cal) : List Value := C.flatMap kcell
theorem kcells_snoc (C : List Cal) (x : Cal) : kcells (C ++ [x]) = kcells C ++ kcell x := by simp [kcells]
theorem kcells_at (C : List Cal) : ∀ {i j : Nat}, i < C.length → j < 4 → (kcells C)[i * 4 + j]? = (kcell (cal C i))[j]? := by
  induction C with
  | nil => intro i j h; simp at h
  | cons h t ih =>
    intro i j hi hj
    unfold kcells
    rw [List.flatMap_cons]
    cases i with
    | zero =>
      rw [List.getElem?_append_left (by simp [kcell]; omega), Nat.zero_mul, Nat.zero_add]
      rfl
    | succ i =>
      rw [List.getElem?_append_right (by simp [kcell]; omega)]
      have e : (i + 1) * 4 + j - (kcell h).length = i * 4 + j := by simp [kcell]; omega
      rw [e]
      exact ih (by simp at hi; omega) hj
theorem kcell_one (x : Cal) : ∀ u ∈ kcell x, u.oneCell' = true := fun u hu => by
  unfold kcell at hu
  simp at hu
  rcases hu with rfl | rfl | rfl | rfl <;> rfl
theorem cals_own {B : Nat} {w : World} {v : Value} {C : List Cal} (h : w.ownsRow B 36 4 v C.length (kcells C)) : ∃ a c, v = .slice a C.length c ∧ CalsAt w a C := by
  have hc := fun g hg => h.cells (g := g) hg
  rcases h.2 with ⟨rfl, h0⟩ | ⟨g, cap, cur, rfl, _⟩
  · exact ⟨none, 0, by rw [h0], fun i hi => by omega⟩
  · refine ⟨some ⟨g, 0, none⟩, cap, rfl, fun i hi => ⟨g, 0, rfl, ?_⟩⟩
    have hx : ∀ j u, j < 4 → (kcell (cal C i))[j]? = some u → w.cell? ⟨g, 0 + i * 4 + j, none⟩ = some u := fun j u hj hu => by
      have := hc g rfl (i * 4 + j) u (by rw [kcells_at C hi hj]; exact hu)
      rw [Nat.zero_add]
      rwa [Addr.add_lit, Nat.zero_add] at this
    exact ⟨hx 0 _ (by omega) rfl, hx 1 _ (by omega) rfl, hx 2 _ (by omega) rfl, hx 3 _ (by omega) rfl⟩
theorem news4 {w : World} {b : Nat} {x : Cal} (c0 : w.cell? ⟨b, 0, none⟩ = some (.int .i64 x.id)) (c1 : w.cell? ⟨b, 1, none⟩ = some (.int .i64 x.pl)) (c2 : w.cell? ⟨b, 2, none⟩ = some (.int .i64 x.tg)) (c3 : w.cell? ⟨b, 3, none⟩ = some (.int .i64 x.ph)) : ∀ j u, (kcell x)[j]? = some u → w.cell? ((⟨b, 0, none⟩ : Addr).add j) = some u := fun j u hj => by
  rw [Addr.add_lit, Nat.zero_add]
  unfold kcell at hj
  match j, hj with
  | 0, hj => cases hj; exact c0
  | 1, hj => cases hj; exact c1
  | 2, hj => cases hj; exact c2
  | 3, hj => cases hj; exact c3

/-- append onto a row of the call's own, in a region that draws. -/
theorem step_append_ownH {P : Program} {ops : Array Oper} {o : Oper} {a : Act} {w : World} {K : Act → World → Prop} {Q : Exit → Act → World → Prop} {E : Prop}
    (hg : o.guard = none) (s x : Operand) (t : TypeId) (hop : o.op = Op.call { callee := Callee.builtin Builtin.append, args := #[s, x], argTypes := #[t, t] })
    (base : Nat) (e : TypeId) (i : TypeInfo) (z : Value) (size bytes : Nat) (h1 : P.underlying t = some (.slice e)) (h2 : P.info? e = some i) (h3 : i.zero = some z) (h4 : i.size = size) (h5 : i.bytes = bytes) (h6 : z.cells.size = size) (h7 : 0 < size)
    (v : Value) (n : Nat) (xs : List Value) (hs : a.eval s = v) (hown : w.ownsRow base e size v n xs)
    (ad : Addr) (m c : Nat) (news : List Value) (hx : a.eval x = .slice (some ad) m c) (hn : news.length = m * size) (hc : ∀ j u, news[j]? = some u → w.cell? (ad.add j) = some u) (h1c : ∀ u ∈ news, u.oneCell' = true)
    (b1 : n + m ≤ maxLen) (b2 : (n + m) * bytes ≤ 140737488355328) (hbase : base ≤ w.heap.size)
    (hK : ∀ v' w', w'.ownsRow base e size v' (n + m) (xs ++ news) → w.grownBy w' v.ownBlock → K (a.put o.dst v') w') :
    if Region.wanted o (yielded ops a.tmps) = true then Oper.wp P o a w K Q else E := by
  have hw : Region.wanted o (yielded ops a.tmps) = true := by simp [Region.wanted, hg]
  rw [if_pos hw]
  exact wp_append_own w s x t hop base e i z size bytes h1 h2 h3 h4 h5 h6 h7 v n xs hs hown ad m c news hx hn hc h1c b1 b2 hbase (fun v' w' r1 r2 _ => hK v' w' r1 r2)

/-- How far the visitor is: what was told (C), to whom (ids). -/
structure VisAt (W2 : World) (mb : Nat) (C : List Cal) (ids : List Int) (W : World) : Prop where
  below : Below W2.heap.size W2 W
  size : W2.heap.size + 4 ≤ W.heap.size
  hx : W.heap[W2.heap.size]? = some (.cells #[.map (some mb)] 44 (0, 0))
  mx : W.heap[W2.heap.size + 2]? = some (.cells #[.map (some (W2.heap.size + 1))] 46 (0, 0))
  set : SetAt W (W2.heap.size + 1) ids.length ids
  row : ∃ v, W.heap[W2.heap.size + 3]? = some (.cells #[v] 28 (0, 0)) ∧ W.ownsRow (W2.heap.size + 4) 36 4 v C.length (kcells C)

theorem VisAt.grown {W2 : World} {mb : Nat} {C : List Cal} {ids : List Int} {W W' : World} {row : Option Nat} (h : VisAt W2 mb C ids W) (hg : W.grownBy W' row) (hr : ∀ r, row = some r → W2.heap.size + 4 ≤ r ∧ ∃ o : Obj, W.heap[r]? = some o ∧ o.isCells = false) : VisAt W2 mb C ids W' := by
  have ne : ∀ k, k < W2.heap.size + 4 → W'.heap[k]? = W.heap[k]? := fun k hk => hg.block k (by have := h.size; omega) (fun e => by have := (hr k e.symm).1; omega)
  obtain ⟨v, hv, ho⟩ := h.row
  refine ⟨h.below.grown hg h.below.size (fun k hk => by have := (hr k hk).1; omega), Nat.le_trans h.size hg.size, (ne _ (by omega)).trans h.hx, (ne _ (by omega)).trans h.mx, RawAt.kept h.set (ne _ (by omega)), v, (ne _ (by omega)).trans hv, owns_block ho (fun k hk => hg.block k (ho.lt k hk).2 (fun e => ?_))⟩
  obtain ⟨_, o, h1, h2⟩ := hr k e.symm
  rcases ho.2 with ⟨e1, _⟩ | ⟨g, cap, cur, e1, _, hgc, _⟩
  · rw [e1] at hk; cases hk
  · rw [e1] at hk
    cases hk
    rw [hgc] at h1
    cases h1
    cases h2
theorem VisAt.own (W2 : World) (mb : Nat) (f : List Spot → List Cal) (g : List Spot → List Int) : OwnFrom (W2.heap.size + 4) (fun X W => VisAt W2 mb (f X) (g X) W) := fun X W W' row h hg hr => h.grown hg hr
/-- New blocks. -/
theorem VisAt.more {W2 : World} {mb : Nat} {C : List Cal} {ids : List Int} {W W' : World} (h : VisAt W2 mb C ids W) (hb : Below W.heap.size W W') : VisAt W2 mb C ids W' := by
  have hs := h.size
  obtain ⟨v, hv, ho⟩ := h.row
  exact ⟨h.below.trans (hb.mono h.below.size), Nat.le_trans hs hb.size, (hb.block _ (by omega)).trans h.hx, (hb.block _ (by omega)).trans h.mx, RawAt.kept h.set (hb.block _ (by omega)), v, (hb.block _ (by omega)).trans hv, owns_block ho (fun k hk => hb.block k (ho.lt k hk).2)⟩
/-- One call more. -/
theorem VisAt.call {W2 : World} {mb : Nat} {C : List Cal} {ids : List Int} {W W' : World} {v v' : Value} {x : Cal} (h : VisAt W2 mb C ids W) (hv : W.heap[W2.heap.size + 3]? = some (.cells #[v] 28 (0, 0))) (ho : W.ownsRow (W2.heap.size + 4) 36 4 v C.length (kcells C))
    (hg : W.grownBy W' v.ownBlock) (ho' : W'.ownsRow (W2.heap.size + 4) 36 4 v' (C.length + 1) (kcells C ++ kcell x)) : VisAt W2 mb (C ++ [x]) ids (W'.setCell ⟨W2.heap.size + 3, 0, none⟩ v') := by
  have hs := h.size
  have ne : ∀ k, k < W2.heap.size + 4 → W'.heap[k]? = W.heap[k]? := fun k hk => hg.block k (by omega) (fun e => by have := (ho.lt k e.symm).1; omega)
  have ns : ∀ k, k ≠ W2.heap.size + 3 → (W'.setCell ⟨W2.heap.size + 3, 0, none⟩ v').heap[k]? = W'.heap[k]? := fun k hk => Below.heap_setCell _ _ _ _ hk
  refine ⟨(h.below.grown hg h.below.size (fun k hk => by have := (ho.lt k hk).1; omega)).setCell (by show W2.heap.size ≤ W2.heap.size + 3; omega) _, by have := hg.size; simp [World.setCell]; omega, (ns _ (by omega)).trans ((ne _ (by omega)).trans h.hx), (ns _ (by omega)).trans ((ne _ (by omega)).trans h.mx), RawAt.kept h.set ((ns _ (by omega)).trans (ne _ (by omega))), v', box_set ((ne _ (by omega)).trans hv), ?_⟩
  rw [List.length_append, List.length_singleton, kcells_snoc]
  exact owns_block ho' (fun k hk => ns k (by have := (ho'.lt k hk).1; omega))
/-- One who has heard, more. -/
theorem VisAt.mark {W2 : World} {mb : Nat} {C : List Cal} {ids : List Int} {W W' : World} {id : Int} (h : VisAt W2 mb C ids W) (hg : W.grownBy W' (some (W2.heap.size + 1))) (hs : SetAt W' (W2.heap.size + 1) (ids.length + 1) (ids ++ [id])) : VisAt W2 mb C (ids ++ [id]) W' := by
  have hsz := h.size
  have ne : ∀ k, k < W.heap.size → k ≠ W2.heap.size + 1 → W'.heap[k]? = W.heap[k]? := fun k hk hne => hg.block k hk (fun e => hne (Option.some.inj e))
  obtain ⟨v, hv, ho⟩ := h.row
  refine ⟨h.below.grown hg h.below.size (fun k hk => by cases hk; omega), Nat.le_trans hsz hg.size, (ne _ (by omega) (by omega)).trans h.hx, (ne _ (by omega) (by omega)).trans h.mx, by rw [List.length_append, List.length_singleton]; exact hs, v, (ne _ (by omega) (by omega)).trans hv, owns_block ho (fun k hk => ne k (ho.lt k hk).2 (by have := (ho.lt k hk).1; omega))⟩

theorem OffT.of_grown {hm : Nat} {A B : World} {row : Option Nat} (hg : A.grownBy B row) (hr : ∀ k, row = some k → ∃ xs t z, A.heap[k]? = some (.cells xs t z) ∧ t = 36) : OffT hm A B :=
  ⟨hg.size, fun k o hk ho ht => (hg.block k (Array.getElem?_eq_some_iff.1 ho).1 (fun e => by
    obtain ⟨xs, t, z, h1, rfl⟩ := hr k e.symm
    rw [ho] at h1
    cases h1
    simp [tchd] at ht)).trans ho⟩
theorem OffT.of_map {hm : Nat} {A B : World} (hg : A.grownBy B (some hm)) : OffT hm A B := ⟨hg.size, fun k o hk ho ht => (hg.block k (Array.getElem?_eq_some_iff.1 ho).1 (fun e => hk (Option.some.inj e))).trans ho⟩
theorem OffT.of_box {hm b : Nat} {A : World} {u v : Value} (h : A.heap[b]? = some (.cells #[u] 28 (0, 0))) : OffT hm A (A.setCell ⟨b, 0, none⟩ v) :=
  ⟨by simp [World.setCell], fun k o hk ho ht => (Below.heap_setCell _ _ _ _ (fun e => by
    have e : k = b := e
    subst e
    rw [h] at ho
    cases ho
    simp [tchd] at ht)).trans ho⟩
theorem row_cells {w : World} {B t size n : Nat} {v : Value} {xs : List Value} (h : w.ownsRow B t size v n xs) : ∀ k, v.ownBlock = some k → ∃ ys t' z, w.heap[k]? = some (.cells ys t' z) ∧ t' = t := fun k hk => by
  rcases h.2 with ⟨e, _⟩ | ⟨g, cap, cur, e, _, hg, _⟩
  · rw [e] at hk; cases hk
  · rw [e] at hk
    cases hk
    exact ⟨cur, t, _, hg, rfl⟩
theorem box2 {w : World} {b t : Nat} {x y : Value} (h : w.heap[b]? = some (.cells #[x, y] t (0, 0))) : w.cell? ⟨b, 0, none⟩ = some x ∧ w.cell? ⟨b, 1, none⟩ = some y := ⟨by simp [World.cell?, h], by simp [World.cell?, h]⟩

set_option maxRecDepth 100000 in
set_option maxHeartbeats 4000000 in
theorem visit_any (W2 : World) (mb B : Nat) (E : List (Spot × Value)) (L : List Hr) (a : Option Addr) (c sb tb k : Nat) (S : List Nd) (hN : S.length ≤ 24) (hk : k < S.length) (hS : NdsAt W2 a S) (hL24 : L.length ≤ 24) (hPL : ∀ x ∈ L, 0 ≤ x.pl ∧ x.pl < S.length) (hB : BigH L)
    (hG : Groups B W2 mb E L) (hsb : W2.cell? ⟨sb, 0, none⟩ = some (.slice a S.length c)) (htb : W2.cell? ⟨tb, 0, none⟩ = some (.int .i64 (k : Int))) (hmb : mb < W2.heap.size)
    (x : Spot) (C : List Cal) (ids : List Int) (W : World) (hC : C.length ≤ 5000) (hids : ids.length ≤ 5000) (hV : VisAt W2 mb C ids W) :
    Calls Try.prog 14 #[spotV x, .pointer (some ⟨W2.heap.size, 0, none⟩), .pointer (some ⟨W2.heap.size + 3, 0, none⟩), .pointer (some ⟨sb, 0, none⟩), .pointer (some ⟨tb, 0, none⟩), .pointer (some ⟨W2.heap.size + 2, 0, none⟩)] W fun e W' =>
      e = .returned (.bool (!(hearF L x).any Hr.st)) ∧ OffT (W2.heap.size + 1) W W' ∧ VisAt W2 mb (C ++ (hearF L x).map (callH S k)) (ids ++ (hearF L x).map Hr.id) W' := by
  obtain ⟨i0, hi0, hz0, hz1, hz2⟩ := info_parts infoCall
  obtain ⟨ha, hc, hget, hH⟩ := hG.look x
  obtain ⟨M, hM⟩ : ∃ M, hearF L x = M := ⟨_, rfl⟩
  have hM24 : M.length ≤ 24 := by
    rw [← hM]
    unfold hearF
    have := List.length_filter_le (atSpot x) L
    omega
  have MIN : Hid (∀ i, i < M.length → (hr M i).pl = x.1 ∧ (hr M i).dn = x.2 ∧ (0 ≤ x.1 ∧ x.1 < S.length) ∧ (Lit.int .i64 (hr M i).id).wf = true) := fun i hi => by
    have hm : hr M i ∈ hearF L x := by rw [hM, hr_elem hi]; exact List.getElem_mem hi
    obtain ⟨h1, h2⟩ := hear_mem.1 hm
    have e1 : (hr M i).pl = x.1 := by rw [← h2]
    have e2 : (hr M i).dn = x.2 := by rw [← h2]
    obtain ⟨j, hj, hje⟩ := List.getElem_of_mem h1
    have hb := hB j hj
    rw [hr_elem hj, hje] at hb
    have := hPL _ h1
    rw [e1] at this
    exact ⟨e1, e2, this, hb⟩
  rw [hM] at hget hH ⊢
  clear hM
  have look : ∀ Wx : World, Below W2.heap.size W2 Wx → (Instr.lookup 44 (.map (some mb)) (spotV x) false).run Try.prog Wx = .ok (.slice ha M.length hc) Wx := fun Wx hb => by
    rw [← hget]
    exact look_spot ((hb.block mb hmb).trans hG.map) x
  have HH : Hid (HrsAt W2 ha M) := hH
  have DC : Hid (∀ (told : Nat) (id : Int) (Wx : World), told < S.length → NdsAt Wx a S → Calls Try.prog 15 #[.agg #[.slice a S.length c], .agg #[.int .i64 (told : Int), .bool x.2], .int .i64 id, .int .i64 (k : Int)] Wx fun e w' => e = .returned (.agg #[.int .i64 id, .int .i64 (told : Int), .int .i64 (callF S k ((told : Int), x.2) id).tg, .int .i64 (callF S k ((told : Int), x.2) id).ph]) ∧ Below Wx.heap.size Wx w') := fun told id Wx h1 h2 => by
    refine (callAt_any a c S k told x.2 id Wx hN h2 hk h1).mono ?_
    rintro e w' ⟨rfl, hb⟩
    exact ⟨by simp [callF], hb⟩
  have HSN : Hid (NdsAt W2 a S) := hS
  have TK : Hid (∀ i, i < M.length → M.take (i + 1) = M.take i ++ [hr M i]) := fun i hi => by rw [List.take_succ_eq_append_getElem hi, hr_elem hi]
  have TE : Hid (M.take M.length = M) := List.take_length
  have CH : Hid (∀ i, i < M.length → callH S k (hr M i) = callF S k (x.1, x.2) (hr M i).id) := fun i hi => by
    obtain ⟨h1, h2, _⟩ := MIN.out i hi
    unfold callH
    rw [h1, h2]
  have s3 : W2.heap.size + 3 < W.heap.size := by have := hV.size; omega
  have lsb := World.block_lt_of_cell? _ _ hsb
  have ltb := World.block_lt_of_cell? _ _ htb
  have HV : Hid (VisAt W2 mb C ids W) := hV
  have KEEP : Hid (∀ Wx : World, Below W2.heap.size W2 Wx → Wx.cell? ⟨sb, 0, none⟩ = some (.slice a S.length c) ∧ Wx.cell? ⟨tb, 0, none⟩ = some (.int .i64 (k : Int))) := fun Wx hb => ⟨keepC hsb hb, keepC htb hb⟩
  have hw0 := hV.below.size
  have hx0 : (W.alloc (.cells #[.int .i64 x.1, .bool x.2] 49)).cell? ⟨W2.heap.size, 0, none⟩ = some (.map (some mb)) := keepC (box_cell hV.hx) (one_belowS _ _)
  have lookW := look (W.alloc (.cells #[.int .i64 x.1, .bool x.2] 49)) (hV.below.trans ((one_belowS W _).mono hV.below.size))
  have hxl : W2.heap.size < W.heap.size := by have := hV.size; omega
  clear hS hG hH hB hPL hget hsb htb look hV
  obtain ⟨n, hn⟩ : ∃ n, S.length = n := ⟨_, rfl⟩
  rw [hn] at hN hk MIN DC KEEP
  clear hn
  obtain ⟨ml, hml⟩ : ∃ n, M.length = n := ⟨_, rfl⟩
  have HML : Hid (M.length = ml) := hml
  rw [hml] at hM24 MIN TK TE CH lookW
  clear hml
  unfold spotV at lookW ⊢
  obtain ⟨xp, xd⟩ := x
  dsimp only at lookW hx0 MIN DC CH ⊢
  have V0 : Hid (VisAt W2 mb (C ++ (M.take 0).map (callH S k)) (ids ++ (M.take 0).map Hr.id) (W.alloc (.cells #[.int .i64 xp, .bool xd] 49))) := (by simpa using HV.out.more (one_belowS _ _) : VisAt W2 mb (C ++ (M.take 0).map (callH S k)) (ids ++ (M.take 0).map Hr.id) (W.alloc (.cells #[.int .i64 xp, .bool xd] 49)))
  go_enter Try.func14, Try.ntmps14
  go_wp2_with fail
  go_loopg [8, 15] ml (fun g s8 s15 wr => ∃ i : Nat, i ≤ ml ∧ ml - i ≤ g ∧ s15 = .int .i64 i ∧ s8 = .bool (!(M.take i).any Hr.st) ∧ Hid (VisAt W2 mb (C ++ (M.take i).map (callH S k)) (ids ++ (M.take i).map Hr.id) wr) ∧ Hid (OffT (W2.heap.size + 1) (W.alloc (.cells #[.int .i64 xp, .bool xd] 49)) wr))
  case atStart => exact ⟨0, by omega, by omega, rfl, by simp, V0, OffT.refl _ _⟩
  case round =>
    obtain ⟨i, hi, hg, rfl, rfl, VR, OR⟩ := hrel
    by_cases hlt : i < ml
    · have hlt2 : (i : Int) < (ml : Int) := by omega
      obtain ⟨hp1, hp2, hp3, hwf⟩ := MIN.out i hlt
      obtain ⟨told, rfl⟩ := Int.eq_ofNat_of_zero_le hp3.1
      have hto : told < n := by omega
      obtain ⟨b, o, ea, c0, c1, c2, c3, c4⟩ := (HH.out.below VR.out.below) i (by rw [HML.out]; exact hlt)
      subst ea
      have TKi : Hid _ := TK.out i hlt
      have CHi : Hid _ := CH.out i hlt
      obtain ⟨y, hy⟩ : ∃ y, hr M i = y := ⟨_, rfl⟩
      rw [hy] at hp1 hp2 hwf c0 c1 c2 c3 c4 TKi CHi
      clear hy hp3
      obtain ⟨yp, yd, yo, ys, yi⟩ := y
      dsimp only at hp1 hp2 hwf c0 c1 c2 c3 c4 CHi
      subst hp1
      subst hp2
      obtain ⟨tg, htg⟩ : ∃ z, (callF S k ((told : Int), yd) yi).tg = z := ⟨_, rfl⟩
      obtain ⟨ph, hph⟩ : ∃ z, (callF S k ((told : Int), yd) yi).ph = z := ⟨_, rfl⟩
      have CE : callF S k ((told : Int), yd) yi = ⟨yi, (told : Int), tg, ph⟩ := by rw [← htg, ← hph]; rfl
      rw [CE] at CHi
      have DCi : Hid _ := fun Wx h2 => DC.out told yi Wx hto h2
      rw [htg, hph] at DCi
      clear htg hph CE
      have q0 := World.block_lt_of_cell? _ _ c0
      obtain ⟨v, hvb, hvo⟩ := VR.out.row
      obtain ⟨cl, hcl⟩ : ∃ z, (C ++ (M.take i).map (callH S k)).length = z := ⟨_, rfl⟩
      have HCL : Hid ((C ++ (M.take i).map (callH S k)).length = cl) := hcl
      have hcl2 : cl ≤ 6000 := by
        rw [← hcl, List.length_append, List.length_map, List.length_take]
        omega
      rw [hcl] at hvo
      clear hcl
      obtain ⟨va, vc, rfl⟩ : ∃ va vc, v = .slice va cl vc := by
        rcases hvo.2 with ⟨e, e0⟩ | ⟨g, cap, cur, e, _⟩
        · exact ⟨none, 0, by rw [e, e0]⟩
        · exact ⟨_, cap, e⟩
      have hsr := VR.out.size
      have hso := OR.out.size
      simp only [World.size_alloc] at hso
      have bsr : wr.heap[W.heap.size]? = some (.cells #[.int .i64 (told : Int), .bool yd] 49 (0, 0)) := OR.out.same _ _ (by omega) (heap_alloc_new W _) rfl
      obtain ⟨W4, hW4⟩ : ∃ W4, wr.alloc (.cells #[.int .i64 (told : Int), .bool yd, .bool yo, .bool ys, .int .i64 yi] 39) = W4 := ⟨_, rfl⟩
      have hb4 : Below wr.heap.size wr W4 := by rw [← hW4]; exact one_belowS _ _
      have hs4 : W4.heap.size = wr.heap.size + 1 := by rw [← hW4]; simp
      have BX : Hid (W4.heap[wr.heap.size]? = some (.cells #[.int .i64 (told : Int), .bool yd, .bool yo, .bool ys, .int .i64 yi] 39 (0, 0))) := by show _ = _; rw [← hW4]; exact heap_alloc_new _ _
      have VW : Hid (VisAt W2 mb (C ++ (M.take i).map (callH S k)) (ids ++ (M.take i).map Hr.id) W4) := VR.out.more hb4
      have OV : Hid (W4.ownsRow (W2.heap.size + 4) 36 4 (.slice va cl vc) cl (kcells (C ++ (M.take i).map (callH S k)))) := owns_block hvo (fun kk hk => hb4.block kk (hvo.lt kk hk).2)
      have BV : Hid (W4.heap[W2.heap.size + 3]? = some (.cells #[.slice va cl vc] 28 (0, 0))) := (hb4.block _ (by omega)).trans hvb
      have BS : Hid (W4.heap[W.heap.size]? = some (.cells #[.int .i64 (told : Int), .bool yd] 49 (0, 0))) := (hb4.block _ (by omega)).trans bsr
      have OW : Hid (OffT (W2.heap.size + 1) (W.alloc (.cells #[.int .i64 (told : Int), .bool yd] 49)) W4) := OR.out.trans (OffT.of_below hb4)
      have HBW : Hid (Below W2.heap.size W2 W4) := VW.out.below
      have t0 := box_cell BV.out
      obtain ⟨t1, t5⟩ := KEEP.out W4 HBW.out
      have t2 := (box2 BS.out).1
      have t3 := (box2 BS.out).2
      have t4 : W4.cell? ⟨wr.heap.size, 4, none⟩ = some (.int .i64 yi) := by simp [World.cell?, BX.out]
      have z4 : wr.heap.size < W4.heap.size := by omega
      have zw : W.heap.size < W4.heap.size := by omega
      have z3 : W2.heap.size + 3 < W4.heap.size := by omega
      clear hvb hvo bsr hb4 VR OR
      go_wp2_with fail
      try rw [hW4]
      clear hW4
      refine wp_region_noPanic ?_
      refine wp_region_X (S := fun w'' => w''.cell? ⟨W2.heap.size + 3, 0, none⟩ = some (.slice va cl vc) ∧ w''.cell? ⟨sb, 0, none⟩ = some (.slice a n c) ∧ w''.cell? ⟨W.heap.size, 0, none⟩ = some (.int .i64 (told : Int)) ∧ w''.cell? ⟨W.heap.size, 1, none⟩ = some (.bool yd) ∧ w''.cell? ⟨wr.heap.size, 4, none⟩ = some (.int .i64 yi) ∧ w''.cell? ⟨tb, 0, none⟩ = some (.int .i64 (k : Int))) 10 (by kernel_rfl) (by (try dsimp only); go_keep) (fun hHeld => ?_)
      refine wpAnyX_take (i := 0) (v := ?_) rfl (by kernel_rfl) (by kernel_rfl) (by kernel_rfl) (by kernel_rfl) (fun _ _ _ h => h) (Or.inl ⟨by rfl, ?_⟩) (by assumption) ?_
      rotate_left
      · intro w hSw; (try dsimp only at hSw); first | (go_simp; done) | (go_simp; with_reducible rfl)
      simp [Act.put]
      refine wpAnyX_take (i := 1) (v := ?_) rfl (by kernel_rfl) (by kernel_rfl) (by kernel_rfl) (by kernel_rfl) (fun _ _ _ h => h) (Or.inl ⟨by rfl, ?_⟩) (by assumption) ?_
      rotate_left
      · intro w hSw; (try dsimp only at hSw); first | (go_simp; done) | (go_simp; with_reducible rfl)
      simp [Act.put]
      refine wpAnyX_take (i := 2) (v := ?_) rfl (by kernel_rfl) (by kernel_rfl) (by kernel_rfl) (by kernel_rfl) (fun _ _ _ h => h) (Or.inl ⟨by rfl, ?_⟩) (by assumption) ?_
      rotate_left
      · intro w hSw; (try dsimp only at hSw); first | (go_simp; done) | (go_simp; with_reducible rfl)
      simp [Act.put]
      refine wpAnyX_take (i := 3) (v := ?_) rfl (by kernel_rfl) (by kernel_rfl) (by kernel_rfl) (by kernel_rfl) (fun _ _ _ h => h) (Or.inl ⟨by rfl, ?_⟩) (by assumption) ?_
      rotate_left
      · intro w hSw; (try dsimp only at hSw); first | (go_simp; done) | (go_simp; with_reducible rfl)
      simp [Act.put]
      refine wpAnyX_take (i := 4) (v := ?_) rfl (by kernel_rfl) (by kernel_rfl) (by kernel_rfl) (by kernel_rfl) (fun _ _ _ h => h) (Or.inl ⟨by rfl, ?_⟩) (by assumption) ?_
      rotate_left
      · intro w hSw; (try dsimp only at hSw); first | (go_simp; done) | (go_simp; with_reducible rfl)
      simp [Act.put]
      refine wpAnyX_take (i := 5) (v := ?_) rfl (by kernel_rfl) (by kernel_rfl) (by kernel_rfl) (by kernel_rfl) (fun _ _ _ h => h) (Or.inl ⟨by rfl, ?_⟩) (by assumption) ?_
      rotate_left
      · intro w hSw; (try dsimp only at hSw); first | (go_simp; done) | (go_simp; with_reducible rfl)
      simp [Act.put]
      refine wpAnyX_take (i := 6) (v := ?_) rfl (by kernel_rfl) (by kernel_rfl) (by kernel_rfl) (by kernel_rfl) (fun _ _ _ h => h) (Or.inl ⟨by rfl, ?_⟩) (by assumption) ?_
      rotate_left
      · intro w hSw; (try dsimp only at hSw); first | (go_simp; done) | (go_simp; with_reducible rfl)
      simp [Act.put]
      refine wpAnyX_one (i := 7) (by kernel_rfl) rfl (fun K hK => ?_)
      go_simp
      refine Calls.mono (DCi.out _ (HSN.out.below (HBW.out.drew))) ?_
      rintro e w7 ⟨rfl, hb7⟩
      have HB7 : Hid (Below W4.heap.size W4 w7) := (Below.refl W4.heap.size W4).drew.trans hb7
      have m0 := keepC t0 HB7.out
      have m1 := keepC t1 HB7.out
      have m2 := keepC t2 HB7.out
      have m3 := keepC t3 HB7.out
      have m4 := keepC t4 HB7.out
      have m5 := keepC t5 HB7.out
      clear hb7
      go_wp2_with fail
      refine hK.out _ _ ?_ (fun hHeld => ?_)
      · (try dsimp only)
        first | exact ⟨m0, m1, m2, m3, m4, m5⟩ | go_keep
      clear hK K
      try simp [Act.put]
      refine wpAnyX_one (i := 8) (by kernel_rfl) rfl (fun K hK => ?_)
      go_simp
      refine hK.out _ _ ?_ (fun hHeld => ?_)
      · (try dsimp only)
        first | exact ⟨keepC m0 (one_belowS w7 _), keepC m1 (one_belowS w7 _), keepC m2 (one_belowS w7 _), keepC m3 (one_belowS w7 _), keepC m4 (one_belowS w7 _), keepC m5 (one_belowS w7 _)⟩ | go_keep
      clear hK K
      try simp [Act.put]
      refine wpAnyX_one (i := 9) (by kernel_rfl) rfl (fun K hK => ?_)
      refine step_append_ownH rfl (.tmp 19) (.tmp 27) 28 rfl (W2.heap.size + 4) 36 i0 (.agg #[.int .i64 0, .int .i64 0, .int .i64 0, .int .i64 0]) 4 32 Try.underlying28 hi0 hz0 hz1 hz2 rfl (by decide) (.slice va cl vc) cl (kcells (C ++ (M.take i).map (callH S k))) rfl ?own ⟨w7.heap.size, 0, none⟩ 1 1 (kcell ⟨yi, (told : Int), tg, ph⟩) rfl rfl (news4 (by go_simp) (by go_simp) (by go_simp) (by go_simp)) (kcell_one _) (by unfold maxLen; omega) (by omega) (by have := HB7.out.size; simp; omega) ?_
      case own => exact (owns_block OV.out (fun kk hk => HB7.out.block kk (World.ownsRow.lt OV.out kk hk).2)).alloc _
      intro v9 w9 own9 grow9
      have V7 : VisAt W2 mb (C ++ (M.take i).map (callH S k)) (ids ++ (M.take i).map Hr.id) (w7.alloc (.cells #[.int .i64 yi, .int .i64 (told : Int), .int .i64 tg, .int .i64 ph] 36)) := (VW.out.more HB7.out).more (one_belowS _ _)
      have o7 : (w7.alloc (.cells #[.int .i64 yi, .int .i64 (told : Int), .int .i64 tg, .int .i64 ph] 36)).ownsRow (W2.heap.size + 4) 36 4 (.slice va cl vc) cl (kcells (C ++ (M.take i).map (callH S k))) := (owns_block OV.out (fun kk hk => HB7.out.block kk (World.ownsRow.lt OV.out kk hk).2)).alloc _
      have b7 : (w7.alloc (.cells #[.int .i64 yi, .int .i64 (told : Int), .int .i64 tg, .int .i64 ph] 36)).heap[W2.heap.size + 3]? = some (.cells #[.slice va cl vc] 28 (0, 0)) := (Below.heap_alloc _ _ _ (by have := HB7.out.size; omega)).trans ((HB7.out.block _ (by omega)).trans BV.out)
      have V9 : Hid (VisAt W2 mb (C ++ (M.take (i + 1)).map (callH S k)) (ids ++ (M.take i).map Hr.id) (w9.setCell ⟨W2.heap.size + 3, 0, none⟩ v9)) := by
        have h := VisAt.call (x := ⟨yi, (told : Int), tg, ph⟩) V7 b7 (by rw [HCL.out]; exact o7) grow9 (by rw [HCL.out]; exact own9)
        show VisAt _ _ _ _ _
        rw [TKi.out, List.map_append, List.map_singleton, CHi.out, ← List.append_assoc]
        exact h
      have O9 : Hid (OffT (W2.heap.size + 1) W4 w9) := ((OffT.of_below HB7.out).trans (OffT.of_below (one_belowS _ _))).trans (OffT.of_grown grow9 (row_cells o7))
      have b9 : w9.heap[W2.heap.size + 3]? = some (.cells #[.slice va cl vc] 28 (0, 0)) := (grow9.block _ (by have := HB7.out.size; simp; omega) (fun e => by have := (World.ownsRow.lt OV.out _ e.symm).1; omega)).trans b7
      have k0 := box_cell b9
      have f9 := box_frozen (o := 0) b9
      have O10 : Hid (OffT (W2.heap.size + 1) W4 (w9.setCell ⟨W2.heap.size + 3, 0, none⟩ v9)) := O9.out.trans (OffT.of_box b9)
      have SP9 : Hid (w9.heap[W.heap.size]? = some (.cells #[.int .i64 (told : Int), .bool yd] 49 (0, 0))) := O9.out.same _ _ (by omega) BS.out rfl
      have HX9 : Hid (w9.heap[wr.heap.size]? = some (.cells #[.int .i64 (told : Int), .bool yd, .bool yo, .bool ys, .int .i64 yi] 39 (0, 0))) := O9.out.same _ _ (by omega) BX.out rfl
      have k2 := (box2 SP9.out).1
      have k3 := (box2 SP9.out).2
      have BW9 : Hid (Below W2.heap.size W2 w9) := (VW.out.below.trans (HB7.out.mono VW.out.below.size)).trans ((one_belowS _ _).mono (by have := VW.out.below.size; have := HB7.out.size; omega)) |>.grown grow9 (by have := VW.out.below.size; have := HB7.out.size; simp; omega) (fun kk hk => by have := (World.ownsRow.lt OV.out kk hk).1; omega)
      obtain ⟨k1, k5⟩ := KEEP.out w9 BW9.out
      have k4 : w9.cell? ⟨wr.heap.size, 4, none⟩ = some (.int .i64 yi) := by simp [World.cell?, HX9.out]
      obtain ⟨g9, c9, hv9⟩ : ∃ g9 c9, v9 = .slice (some ⟨g9, 0, none⟩) (cl + 1) c9 := by
        rcases own9.2 with ⟨_, h⟩ | ⟨g, cap, cur, h, _⟩
        · omega
        · exact ⟨g, cap, h⟩
      subst hv9
      have q9 : W2.heap.size + 3 < w9.heap.size := World.block_lt_of_cell? _ _ k0
      clear own9 grow9 V7 o7 b7 b9
      refine hK.out _ _ ?_ (fun hHeld => ?_)
      · (try dsimp only)
        first | exact ⟨k0, k1, k2, k3, k4, k5⟩ | go_keep
      clear hK K
      try simp [Act.put]
      refine wpAnyX_last (by kernel_rfl) rfl (fun K hK => ?_)
      go_simp
      refine hK.out _ _ ?_
      clear hK K
      try simp [Act.put]
      refine wpAnyX_done (by kernel_rfl) ?_ _
      refine NoPanic.normal ?_
      obtain ⟨W10, hW10⟩ : ∃ W10, w9.setCell ⟨W2.heap.size + 3, 0, none⟩ (.slice (some ⟨g9, 0, none⟩) (cl + 1) c9) = W10 := ⟨_, rfl⟩
      rw [hW10] at V9 O10
      try rw [hW10]
      clear hW10 k0 k1 k2 k3 k4 k5 f9 hHeld O9 SP9 HX9 BW9
      have p0 := box_cell V9.out.mx
      have X10 : W10.heap[wr.heap.size]? = some (.cells #[.int .i64 (told : Int), .bool yd, .bool yo, .bool ys, .int .i64 yi] 39 (0, 0)) := O10.out.same _ _ (by omega) BX.out rfl
      have p4 : W10.cell? ⟨wr.heap.size, 4, none⟩ = some (.int .i64 yi) := by simp [World.cell?, X10]
      obtain ⟨w11, hput, hset, hgr⟩ := SetAt.put (V9.out.set) (by rw [List.length_append, List.length_map, List.length_take]; unfold maxLen; omega) hwf
      have V11 : Hid (VisAt W2 mb (C ++ (M.take (i + 1)).map (callH S k)) (ids ++ (M.take (i + 1)).map Hr.id) w11) := by
        have h := V9.out.mark hgr hset
        show VisAt _ _ _ _ _
        rw [List.append_assoc] at h
        have e : (M.take (i + 1)).map Hr.id = (M.take i).map Hr.id ++ [yi] := by rw [TKi.out, List.map_append]; rfl
        rw [e]
        exact h
      have O11 : Hid (OffT (W2.heap.size + 1) W4 w11) := O10.out.trans (OffT.of_map hgr)
      have X11 : w11.heap[wr.heap.size]? = some (.cells #[.int .i64 (told : Int), .bool yd, .bool yo, .bool ys, .int .i64 yi] 39 (0, 0)) := O11.out.same _ _ (by omega) BX.out rfl
      have p3 : w11.cell? ⟨wr.heap.size, 3, none⟩ = some (.bool ys) := by simp [World.cell?, X11]
      have HAN : Hid ((M.take (i + 1)).any Hr.st = ((M.take i).any Hr.st || ys)) := (by rw [TKi.out, List.any_append]; simp : (M.take (i + 1)).any Hr.st = ((M.take i).any Hr.st || ys))
      have OFIN : Hid (OffT (W2.heap.size + 1) (W.alloc (.cells #[.int .i64 (told : Int), .bool yd] 49)) w11) := OW.out.trans O11.out
      have r1 := World.block_lt_of_cell? _ _ p4
      have r2 := World.block_lt_of_cell? _ _ p3
      clear hset hgr X10 X11 V9 O10 O11 OW m0 m1 m2 m3 m4 m5 t0 t1 t2 t3 t4 t5 HB7 OV BV BS BX VW
      generalize (M.take i).any Hr.st = b0 at *
      cases b0 <;> cases ys
      all_goals
        go_wp2_with fail
        go_roundg (ml - (i + 1))
        case measure => omega
        case rel => exact ⟨i + 1, by omega, by omega, by go_num, by rw [HAN.out]; rfl, V11, OFIN⟩
    · have hie : i = ml := by omega
      subst hie
      have FV : Hid (VisAt W2 mb (C ++ M.map (callH S k)) (ids ++ M.map Hr.id) wr) := by have h := VR.out; rw [TE.out] at h; exact h
      have FO : Hid (OffT (W2.heap.size + 1) W wr) := (OffT.of_below (one_belowS W _)).trans OR.out
      have HT : Hid ((M.take i).any Hr.st = M.any Hr.st) := (by rw [TE.out] : (M.take i).any Hr.st = M.any Hr.st)
      clear VR OR
      generalize (M.take i).any Hr.st = b0 at *
      go_wp2_with fail
      go_ret
      exact ⟨by rw [← HT.out]; rfl, FO.out, FV.out⟩
end Go.Proofs.Ytplkfacaphejgaa
