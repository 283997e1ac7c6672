/-
  The reference's OwnStore: a store in memory of its own.
-/
import Derived.Test.YtgjfmepbphfjoaaGreatUTdTeSo
import Derived.Test.YtgjfmepbphfjoaaGreatUSaSbScBa
import Derived.Laws.AppendOwn
import Derived.Laws.AppendOwnNone
import Derived.Laws.EntriesVeiled
import Derived.Deep.RegionHeld3
namespace Go.Proofs.YtgjfmepbphfjoaaGreat
open Go.RowKit

theorem wpList_append_none {P : Program} {w : World} {ops : Array Oper} {rest : List Oper} {o : Oper} {a : Act} {Q : Exit → Act → World → Prop} (hgd : o.guard = none) (s x : Operand) (t : TypeId)
    (ho : o.op = .call { callee := .builtin .append, args := #[s, x], argTypes := #[t, t] })
    (base : Nat) (e : TypeId) (i : TypeInfo) (size : Nat) (ht : P.underlying t = some (.slice e)) (hi : P.info? e = some i)
    (v : Value) (n c : Nat) (xs : List Value) (hs : a.eval s = v) (hown : w.ownsRow base e size v n xs) (hx : a.eval x = .slice none 0 c)
    (h : wpList P ops Q rest (a.put o.dst v) w) : wpList P ops Q (o :: rest) a w := by
  refine wpList_plain hgd fun K hK => ?_
  have hrun : (Builtin.append_ #[t, t] o.type #[v, .slice none 0 c]).run P w = .ok v w := by
    rcases hown.2 with ⟨rfl, rfl⟩ | ⟨g, cap, cur, rfl, _, _, hnc, _⟩
    · simp [Builtin.append_, run_underlying ht, sizeOf, typeInfo, hi, Builtin.lenOf, Builtin.firstCells]
    · simp [Builtin.append_, run_underlying ht, sizeOf, typeInfo, hi, Builtin.lenOf, Builtin.firstCells, hnc, storeCells]
  unfold Oper.wp
  simp [execOp, ho, resolve, invoke, builtin, hs, hx, hrun, Result.andThen]
  exact hK _ _ h

theorem grownBy_refl (w : World) (r : Option Nat) : w.grownBy w r := ⟨rfl, rfl, rfl, Nat.le_refl _, fun _ _ _ => rfl⟩

/-- append(buf, xs...), buf of the call's own, xs any slice of numbers. -/
theorem wpList_append_ints {w : World} {ops : Array Oper} {rest : List Oper} {o : Oper} {a : Act} {Q : Exit → Act → World → Prop} (hgd : o.guard = none) (s x : Operand)
    (ho : o.op = .call { callee := .builtin .append, args := #[s, x], argTypes := #[29, 29] })
    (base : Nat) (v : Value) (n : Nat) (xs : List Value) (hs : a.eval s = v) (hown : w.ownsRow base 3 1 v n xs)
    (ka : Option Addr) (m kc : Nat) (ks : List Int) (hx : a.eval x = .slice ka m kc) (hm : ks.length = m) (hI : IntsAt w ka ks)
    (h63 : n + m ≤ maxLen) (hbytes : (n + m) * 8 ≤ 140737488355328) (hbase : base ≤ w.heap.size)
    (h : ∀ v' w', w'.ownsRow base 3 1 v' (n + m) (xs ++ ks.map (Value.int .i64)) → w.grownBy w' v.ownBlock → (v ≠ .slice none 0 0 → v' ≠ .slice none 0 0) → wpList Tryz.prog ops Q rest (a.put o.dst v') w') : wpList Tryz.prog ops Q (o :: rest) a w := by
  obtain ⟨i0, hi0, hz0, hz1, hz2⟩ := info_parts info3
  subst hm
  cases ka with
  | none =>
    have h0 : ks = [] := by
      cases ks with
      | nil => rfl
      | cons y l => obtain ⟨b, o, e, _⟩ := hI 0 (by simp); cases e
    subst h0
    exact wpList_append_none hgd s x 29 ho base 3 i0 1 Tryz.underlying29 hi0 v n kc xs hs hown hx (h v w (by simpa using hown) (grownBy_refl _ _) id)
  | some ad =>
    exact wpList_append_own w hgd s x 29 ho base 3 i0 (.int .i64 0) 1 8 Tryz.underlying29 hi0 hz0 hz1 hz2 rfl (by decide) v n xs hs hown ad ks.length kc (ks.map (Value.int .i64)) hx (by simp) (fun j u hj => by
      rw [List.getElem?_map] at hj
      cases hjk : ks[j]? with
      | none => rw [hjk] at hj; cases hj
      | some y =>
        rw [hjk] at hj
        have hlt : j < ks.length := (List.getElem?_eq_some_iff.1 hjk).1
        obtain ⟨b, o, e, hc⟩ := hI j hlt
        cases e
        have : ks.getD j 0 = y := by rw [getD_elem ks 0 hlt]; exact (List.getElem?_eq_some_iff.1 hjk).2
        rw [this] at hc
        simp at hj
        subst hj
        rw [Addr.add_lit]; exact hc) (fun u hu => by obtain ⟨y, _, rfl⟩ := List.mem_map.1 hu; rfl) h63 hbytes hbase (fun v' w' h2 h3 h4 => h v' w' h2 h3 (fun hn e => hn (h4.1 e).1))

def ncell (x : Nd) (v : Value) : List Value := [.bool x.u, .int .i64 x.n, .int .i64 x.t, .int .i64 x.m, .int .i64 x.p, v, .int .i64 x.h, .bool x.c]
def ncells (S : List Nd) (K : Nat → Value) (q : Nat) : List Value := (List.range q).flatMap fun i => ncell (nd S i) (K i)

theorem flatMap_congr' {α β : Type} {l : List α} {f g : α → List β} (h : ∀ x ∈ l, f x = g x) : l.flatMap f = l.flatMap g := by
  induction l with
  | nil => rfl
  | cons y l ih => simp only [List.flatMap_cons]; rw [h y (by simp), ih (fun x hx => h x (by simp [hx]))]

theorem ncells_succ (S : List Nd) (K : Nat → Value) (q : Nat) (v : Value) : ncells S K q ++ ncell (nd S q) v = ncells S (fun i => if i = q then v else K i) (q + 1) := by
  unfold ncells
  rw [List.range_succ, List.flatMap_append]
  congr 1
  · refine flatMap_congr' (fun x hx => ?_)
    have : x ≠ q := by have := List.mem_range.1 hx; omega
    simp only [if_neg this]
  · simp

/-- A store's rows, of the call's own: the nodes', and each node's children's. -/
def OwnK (B : Nat) (S : List Nd) (q : Nat) (K : Nat → Value) (v : Value) (w : World) : Prop :=
  w.ownsRow B 47 8 v q (ncells S K q) ∧ ∀ i, i < q → w.ownsRow B 3 1 (K i) (nd S i).ks.length ((nd S i).ks.map (Value.int .i64))

/-- A box of a store. -/
def BoxS (w : World) (b : Nat) (v : Value) : Prop := w.heap[b]? = some (.cells #[v] 24 (0, 0))
theorem BoxS.cell {w : World} {b : Nat} {v : Value} (h : BoxS w b v) : w.cell? ⟨b, 0, none⟩ = some v := by
  unfold BoxS at h
  simp [World.cell?, h]
theorem BoxS.frozen {w : World} {b : Nat} {v : Value} (h : BoxS w b v) : w.frozen? ⟨b, 0, none⟩ = false := by
  unfold BoxS at h
  simp [World.frozen?, h]
theorem BoxS.set {w : World} {b : Nat} {v v' : Value} (h : BoxS w b v) : BoxS (w.setCell ⟨b, 0, none⟩ v') b v' := by
  unfold BoxS at h ⊢
  show (w.heap.modify b _)[b]? = _
  rw [Array.getElem?_modify, if_pos rfl, h]
  rfl
theorem BoxS.new (w : World) (v : Value) (b : Nat) (hb : b = w.heap.size) : BoxS (w.alloc (.cells #[v] 24)) b v := by
  subst hb
  unfold BoxS
  exact heap_alloc_new w _
theorem own_empty (W : World) (o1 : Obj) : ((W.alloc o1).alloc (.cells #[] 3)).ownsRow (W.heap.size + 1) 3 1 (.slice (some ⟨W.heap.size + 1, 0, none⟩) 0 0) 0 [] := by
  have h := World.ownsRow_lit (base := W.heap.size + 1) (e := 3) (size := 1) (W.alloc o1) #[] 0 (by simp) (by unfold maxLen; omega) (by simp)
  simpa using h
theorem BoxS.alloc {w : World} {b : Nat} {v : Value} (h : BoxS w b v) (o : Obj) : BoxS (w.alloc o) b v := by
  have hlt := World.block_lt_of_cell? _ _ h.cell
  exact (Below.heap_alloc _ _ _ hlt).trans h

/-- So far. -/
def OwnI (w : World) (S : List Nd) (q : Nat) (K : Nat → Value) (v : Value) (wr : World) : Prop :=
  Below w.heap.size w wr ∧ w.heap.size + 3 ≤ wr.heap.size ∧ BoxS wr (w.heap.size + 1) (.slice none 0 0) ∧ BoxS wr (w.heap.size + 2) v ∧ OwnK (w.heap.size + 3) S q K v wr

theorem OwnI.step {w wr w2 w3 : World} {S : List Nd} {q : Nat} {K : Nat → Value} {v v1 v2 : Value} {o1 o3 : Obj} (I : OwnI w S q K v wr) 
    (h2 : ((wr.alloc o1).alloc (.cells #[] 3)).grownBy w2 (some (wr.heap.size + 1))) (own2 : w2.ownsRow (wr.heap.size + 1) 3 1 v1 (nd S q).ks.length ((nd S q).ks.map (Value.int .i64))) 
    (h3 : ((w2.setCell ⟨wr.heap.size, 5, none⟩ v1).alloc o3).grownBy w3 v.ownBlock) (own3 : w3.ownsRow (w.heap.size + 3) 47 8 v2 (q + 1) (ncells S K q ++ ncell (nd S q) v1)) :
    OwnI w S (q + 1) (fun i => if i = q then v1 else K i) v2 (w3.setCell ⟨w.heap.size + 2, 0, none⟩ v2) := by
  obtain ⟨hb, hs, hr, ho, hm, hk⟩ := I
  have s2 := h2.size
  have s3 := h3.size
  simp [World.setCell] at s2 s3
  have hvb : ∀ k, v.ownBlock = some k → w.heap.size + 3 ≤ k ∧ k < wr.heap.size := fun k hk => hm.lt k hk
  have e2 : ∀ k, k < wr.heap.size → w2.heap[k]? = wr.heap[k]? := fun k hk =>
    (h2.block k (by simp; omega) (by intro e; have := Option.some.inj e; omega)).trans ((Below.heap_alloc _ _ _ (by simp; omega)).trans (Below.heap_alloc _ _ _ hk))
  have e3 : ∀ k, k < w2.heap.size → k ≠ wr.heap.size → v.ownBlock ≠ some k → w3.heap[k]? = w2.heap[k]? := fun k hk hk1 hk2 =>
    (h3.block k (by simp [World.setCell]; omega) (fun e => hk2 e.symm)).trans ((Below.heap_alloc _ _ _ (by simp [World.setCell]; omega)).trans (Below.heap_setCell _ _ _ _ hk1))
  have e4 : ∀ k, k ≠ w.heap.size + 2 → (w3.setCell ⟨w.heap.size + 2, 0, none⟩ v2).heap[k]? = w3.heap[k]? := fun k hk => Below.heap_setCell _ _ _ _ hk
  have hlow : ∀ k, k < w.heap.size + 3 → w3.heap[k]? = wr.heap[k]? := fun k hk => (e3 k (by omega) (by omega) (fun e => by have := (hvb k e).1; omega)).trans (e2 k (by omega))
  refine ⟨⟨h3.os.trans (h2.os.trans hb.os), h3.tape.trans (h2.tape.trans hb.tape), h3.output.trans (h2.output.trans hb.output), by simp [World.setCell]; omega, fun k hk => ?_⟩, by simp [World.setCell]; omega, ?_, ?_, ?_, fun i hi => ?_⟩
  · exact (e4 k (by omega)).trans ((hlow k (by omega)).trans (hb.block k hk))
  · exact (e4 _ (by omega)).trans ((hlow _ (by omega)).trans hr)
  · exact BoxS.set (v := v) ((hlow _ (by omega)).trans ho)
  · rw [← ncells_succ]
    exact owns_block own3 (fun k hk => e4 k (by have := (own3.lt k hk).1; omega))
  · by_cases e : i = q
    · subst e
      simp only [if_true]
      refine owns_block (ownsRow_baseL own2 (by omega)) (fun k hk => ?_)
      have hl := own2.lt k hk
      exact (e4 k (by omega)).trans (e3 k (by omega) (by omega) (fun e => by have := (hvb k e).2; omega))
    · simp only [if_neg e]
      have hkr := hk i (by omega)
      refine owns_block hkr (fun k hk => ?_)
      have hl := hkr.lt k hk
      exact (e4 k (by omega)).trans ((e3 k (by omega) (by omega) (owns_apart hkr hm (by decide) k hk)).trans (e2 k (by omega)))

theorem news8 {W : World} {b : Nat} {x : Nd} {v : Value} (c0 : W.cell? ⟨b, 0, none⟩ = some (.bool x.u)) (c1 : W.cell? ⟨b, 1, none⟩ = some (.int .i64 x.n)) (c2 : W.cell? ⟨b, 2, none⟩ = some (.int .i64 x.t)) (c3 : W.cell? ⟨b, 3, none⟩ = some (.int .i64 x.m)) (c4 : W.cell? ⟨b, 4, none⟩ = some (.int .i64 x.p)) (c5 : W.cell? ⟨b, 5, none⟩ = some v) (c6 : W.cell? ⟨b, 6, none⟩ = some (.int .i64 x.h)) (c7 : W.cell? ⟨b, 7, none⟩ = some (.bool x.c)) : ∀ j u, (ncell x v)[j]? = some u → W.cell? ((⟨b, 0, none⟩ : Addr).add j) = some u := fun j u hj => by
  unfold ncell at hj
  rw [Addr.add_lit]
  match j, hj with
  | 0, hj => cases hj; exact c0
  | 1, hj => cases hj; exact c1
  | 2, hj => cases hj; exact c2
  | 3, hj => cases hj; exact c3
  | 4, hj => cases hj; exact c4
  | 5, hj => cases hj; exact c5
  | 6, hj => cases hj; exact c6
  | 7, hj => cases hj; exact c7

theorem one8 {x : Nd} {a : Option Addr} {n c : Nat} : ∀ u ∈ ncell x (.slice a n c), u.oneCell' = true := fun u hu => by
  unfold ncell at hu
  simp at hu
  rcases hu with rfl | rfl | rfl | rfl | rfl | rfl | rfl | rfl <;> rfl

theorem box8 {W w2 : World} {a0 a1 a2 a3 a4 a5 a6 a7 : Value} (h2 : ((W.alloc (.cells #[a0, a1, a2, a3, a4, a5, a6, a7] 47)).alloc (.cells #[] 3)).grownBy w2 (some (W.heap.size + 1))) :
    (w2.cell? ⟨W.heap.size, 0, none⟩ = some a0 ∧ w2.cell? ⟨W.heap.size, 1, none⟩ = some a1 ∧ w2.cell? ⟨W.heap.size, 2, none⟩ = some a2 ∧ w2.cell? ⟨W.heap.size, 3, none⟩ = some a3 ∧ w2.cell? ⟨W.heap.size, 4, none⟩ = some a4 ∧ w2.cell? ⟨W.heap.size, 5, none⟩ = some a5 ∧ w2.cell? ⟨W.heap.size, 6, none⟩ = some a6 ∧ w2.cell? ⟨W.heap.size, 7, none⟩ = some a7) ∧ w2.frozen? ⟨W.heap.size, 5, none⟩ = false ∧ W.heap.size + 2 ≤ w2.heap.size := by
  have e : w2.heap[W.heap.size]? = some (.cells #[a0, a1, a2, a3, a4, a5, a6, a7] 47 (0, 0)) :=
    (h2.block W.heap.size (by simp; omega) (by intro e; have := Option.some.inj e; omega)).trans ((Below.heap_alloc _ _ _ (by simp)).trans (heap_alloc_new W _))
  have s2 := h2.size
  simp at s2
  refine ⟨⟨?_, ?_, ?_, ?_, ?_, ?_, ?_, ?_⟩, ?_, by omega⟩
  all_goals simp [World.cell?, World.frozen?, e]

theorem low2 {W w2 : World} {o1 : Obj} (h2 : ((W.alloc o1).alloc (.cells #[] 3)).grownBy w2 (some (W.heap.size + 1))) : ∀ k, k < W.heap.size → w2.heap[k]? = W.heap[k]? := fun k hk =>
    (h2.block k (by simp; omega) (by intro e; have := Option.some.inj e; omega)).trans ((Below.heap_alloc _ _ _ (by simp; omega)).trans (Below.heap_alloc _ _ _ hk))

theorem own_mid {W w2 : World} {o1 o3 : Obj} {B q : Nat} {v v1 : Value} {xs : List Value} (hm : W.ownsRow B 47 8 v q xs) (h2 : ((W.alloc o1).alloc (.cells #[] 3)).grownBy w2 (some (W.heap.size + 1))) : ((w2.setCell ⟨W.heap.size, 5, none⟩ v1).alloc o3).ownsRow B 47 8 v q xs :=
  owns_block hm (fun k hk => by
    have hl := (hm.lt k hk).2
    have s2 := h2.size
    simp at s2
    exact (Below.heap_alloc _ _ _ (by simp [World.setCell]; omega)).trans ((Below.heap_setCell _ _ _ _ (by simp; omega)).trans (low2 h2 k hl)))

theorem low3 {W w2 w3 : World} {o3 : Obj} {B q : Nat} {v v1 : Value} {xs : List Value} (hm : W.ownsRow B 47 8 v q xs) (hs : W.heap.size ≤ w2.heap.size) (h3 : ((w2.setCell ⟨W.heap.size, 5, none⟩ v1).alloc o3).grownBy w3 v.ownBlock) : ∀ k, k < B → k < W.heap.size → w3.heap[k]? = w2.heap[k]? := fun k hk hk2 =>
  (h3.block k (by simp [World.setCell]; omega) (fun e => by have := (hm.lt k e.symm).1; omega)).trans ((Below.heap_alloc _ _ _ (by simp [World.setCell]; omega)).trans (Below.heap_setCell _ _ _ _ (by simp; omega)))

set_option maxRecDepth 100000 in
set_option maxHeartbeats 1000000 in
theorem rOwn_any (a : Option Addr) (c : Nat) (S : List Nd) (w : World) (hN : S.length * 80 ≤ 140737488355328) (hB : ∀ i, i < S.length → (nd S i).ks.length * 8 ≤ 140737488355328) (hS : NdsAt w a S) :
    Calls Tryz.prog 82 #[.agg #[.slice a S.length c]] w fun e w' => ∃ v K, e = .returned (.agg #[v]) ∧ Below w.heap.size w w' ∧ OwnK w.heap.size S S.length K v w' := by
  obtain ⟨i0, hi0, hz0, hz1, hz2⟩ := info_parts info47
  have HS : Hid (NdsAt w a S) := hS
  have hN2 : S.length ≤ 9223372036854775807 := by omega
  have HB : Hid _ := hB
  clear hS hB
  generalize hn : S.length = n at *
  have HN : Hid _ := hn
  clear hn
  go_enter Tryz.func82, Tryz.ntmps82
  go_wp2
  go_loopg [9] n (fun g s9 wr => ∃ (q : Nat) (K : Nat → Value) (v : Value), q ≤ n ∧ n - q ≤ g ∧ s9 = .int .i64 q ∧ Hid (OwnI w S q K v wr))
  case atStart =>
    refine ⟨0, fun _ => .slice none 0 0, .slice none 0 0, by omega, by omega, rfl, (show Hid (OwnI _ _ _ _ _ _) from ⟨(((Below.refl _ _).alloc (Nat.le_refl _) _).alloc (by simp) _).alloc (by simp; omega) _, by simp, ?_, ?_, World.ownsRow_nil _ _ _ _, fun i hi => by omega⟩)⟩
    · exact ((BoxS.new _ _ _ (by simp)).alloc _)
    · exact BoxS.new _ _ _ (by simp)
  case round =>
    obtain ⟨q, K, v, hq, hg, rfl, I⟩ := hrel
    by_cases hlt : q < n
    · have hlt2 : (q : Int) < (n : Int) := by omega
      obtain ⟨nb, no, rfl, c0, c1, c2, c3, c4, ⟨ka, kc, c5, hks⟩, c6, c7⟩ := (HS.out.below I.out.1) q (by rw [HN.out]; exact hlt)
      have HKS : Hid (IntsAt wr ka (nd S q).ks) := hks
      have hlk := HB.out q hlt
      have hwr := I.out.2.1
      have hob := I.out.2.2.2.1.cell
      have hof := I.out.2.2.2.1.frozen
      have hm0 := I.out.2.2.2.2.1
      obtain ⟨va, vc, rfl⟩ : ∃ va vc, v = .slice va q vc := by
        rcases hm0.2 with ⟨h, h0⟩ | ⟨g, cap, cur, h, _⟩
        · exact ⟨none, 0, by rw [h, h0]⟩
        · exact ⟨_, cap, h⟩
      have HM : Hid _ := hm0
      clear hm0
      have STEP := fun w2 w3 v1 v2 o1 o3 => OwnI.step (w2 := w2) (w3 := w3) (v1 := v1) (v2 := v2) (o1 := o1) (o3 := o3) I.out
      have HSTEP : Hid _ := STEP
      have OL : Hid (((wr.alloc (.cells #[.bool (nd S q).u, .int .i64 (nd S q).n, .int .i64 (nd S q).t, .int .i64 (nd S q).m, .int .i64 (nd S q).p, .slice ka (nd S q).ks.length kc, .int .i64 (nd S q).h, .bool (nd S q).c] 47)).alloc (.cells #[] 3)).ownsRow (wr.heap.size + 1) 3 1 (.slice (some ⟨wr.heap.size + 1, 0, none⟩) 0 0) 0 []) := own_empty wr _
      have hb63 : 0 + (nd S q).ks.length ≤ maxLen := by unfold maxLen; omega
      have hb47 : (0 + (nd S q).ks.length) * 8 ≤ 140737488355328 := by omega
      have hbs : w.heap.size ≤ wr.heap.size := by omega
      clear hks STEP I
      generalize hx : nd S q = x at *
      obtain ⟨xu, xn, xt, xm, xp, xks, xh, xc⟩ := x
      dsimp only at c0 c1 c2 c3 c4 c5 c6 c7 HKS hlk OL hb63 hb47
      have HX : Hid _ := hx
      clear hx
      generalize hL : xks.length = L at *
      have HL : Hid _ := hL
      clear hL
      go_wp2_with (at_builtin; refine wpList_append_ints rfl (.tmp 13) (.tmp 15) rfl (wr.heap.size + 1) (.slice (some ⟨wr.heap.size + 1, 0, none⟩) 0 0) 0 [] ?hs ?how ka L kc xks ?hx HL.out ?hI hb63 hb47 ?hbase ?_)
      case how => exact OL.out
      case hI => exact HKS.out.below (((Below.refl _ _).alloc (Nat.le_refl _) _).alloc (by simp) _)
      intro v1 w2 own2 grow2 hv1
      obtain ⟨g1, cap1, rfl⟩ : ∃ g1 cap1, v1 = .slice (some ⟨g1, 0, none⟩) L cap1 := by
        rcases own2.2 with ⟨h, _⟩ | ⟨g, cap, cur, h, _⟩
        · exact absurd h hv1
        · exact ⟨g, cap, h⟩
      obtain ⟨⟨b0, b1, b2, b3, b4, b5, b6, b7⟩, bf, hs2⟩ := box8 grow2
      have hob2 : w2.cell? ⟨w.heap.size + 1 + 1, 0, none⟩ = some (.slice va q vc) := (World.cell?_of_block (low2 grow2 _ (by show w.heap.size + 1 + 1 < _; omega))).trans hob
      have hof2 : w2.frozen? ⟨w.heap.size + 1 + 1, 0, none⟩ = false := (World.frozen?_of_block (low2 grow2 _ (by show w.heap.size + 1 + 1 < _; omega))).trans hof
      have OM : Hid (∀ o3, ((w2.setCell ⟨wr.heap.size, 5, none⟩ (.slice (some ⟨g1, 0, none⟩) L cap1)).alloc o3).ownsRow (w.heap.size + 3) 47 8 (.slice va q vc) q (ncells S K q)) := fun o3 => own_mid HM.out grow2
      have st2 := fun w3 v2 o3 => HSTEP.out w2 w3 (.slice (some ⟨g1, 0, none⟩) L cap1) v2 _ o3 grow2 own2
      have ST2 : Hid _ := st2
      clear st2
      clear OL HKS HSTEP hob hof c0 c1 c2 c3 c4 c5 c6 c7
      have hb63' : q + 1 ≤ maxLen := by unfold maxLen; omega
      have hb47' : (q + 1) * 80 ≤ 140737488355328 := by omega
      go_wp2_with (at_builtin; refine wpList_append_own _ rfl (.tmp 19) (.tmp 21) 22 rfl (w.heap.size + 3) 47 i0 _ 8 80 Tryz.underlying22 hi0 hz0 hz1 hz2 rfl (by decide) (.slice va q vc) q (ncells S K q) ?hs2 ?how2 ⟨w2.heap.size, 0, none⟩ 1 1 (ncell ⟨xu, xn, xt, xm, xp, xks, xh, xc⟩ (.slice (some ⟨g1, 0, none⟩) L cap1)) ?hx2 rfl ?c1 ?c2 hb63' hb47' ?hbase2 ?_)
      case how2 => exact OM.out _
      case hs2 => rfl
      case hx2 => rfl
      case c1 => exact news8 (by go_simp) (by go_simp) (by go_simp) (by go_simp) (by go_simp) (by go_simp) (by go_simp) (by go_simp)
      case c2 => exact one8
      case hbase2 => simp; omega
      intro v2 w3 own3 grow3 _
      obtain ⟨g2, cap2, rfl⟩ : ∃ g2 cap2, v2 = .slice (some ⟨g2, 0, none⟩) (q + 1) cap2 := by
        rcases own3.2 with ⟨_, h⟩ | ⟨g, cap, cur, h, _⟩
        · omega
        · exact ⟨g, cap, h⟩
      have FIN := ST2.out _ _ _ grow3 own3
      have HFIN : Hid _ := FIN
      have hob3 : w3.cell? ⟨w.heap.size + 1 + 1, 0, none⟩ = some (.slice va q vc) := (World.cell?_of_block (low3 HM.out (by omega) grow3 _ (by show w.heap.size + 1 + 1 < _; omega) (by show w.heap.size + 1 + 1 < _; omega))).trans hob2
      have hof3 : w3.frozen? ⟨w.heap.size + 1 + 1, 0, none⟩ = false := (World.frozen?_of_block (low3 HM.out (by omega) grow3 _ (by show w.heap.size + 1 + 1 < _; omega) (by show w.heap.size + 1 + 1 < _; omega))).trans hof2
      clear hob2 hof2 FIN own3 grow3 ST2 OM own2 grow2 hv1 b0 b1 b2 b3 b4 b5 b6 b7 bf
      go_wp2
      go_roundg (n - (q + 1))
      case measure => omega
      case rel => exact ⟨q + 1, _, _, by omega, by omega, by go_num, HFIN⟩
    · have : q = n := by omega
      subst this
      have hr1 := I.out.2.2.1.cell
      have hr2 := I.out.2.2.1.frozen
      have ho1 := I.out.2.2.2.1.cell
      have HK : Hid _ := I.out.2.2.2.2
      have HBL : Hid (Below w.heap.size w wr) := I.out.1
      have hm0 := I.out.2.2.2.2.1
      obtain ⟨va, vc, rfl⟩ : ∃ va vc, v = .slice va q vc := by
        rcases hm0.2 with ⟨h, h0⟩ | ⟨g, cap, cur, h, _⟩
        · exact ⟨none, 0, by rw [h, h0]⟩
        · exact ⟨_, cap, h⟩
      clear hm0 I
      go_wp2
      have hrc : (wr.setCell ⟨w.heap.size + 1, 0, none⟩ (.slice va q vc)).cell? ⟨w.heap.size + 1, 0, none⟩ = some (.slice va q vc) := World.cell?_setCell_same _ _ _ hr1
      refine bodyPost_ret (v := .agg #[.slice va q vc]) (by simp [results, Tryz.results82, go_sem, hrc]) rfl ?_
      refine ⟨_, K, rfl, HBL.out.setCell (by simp) _, ?_⟩
      have e4 : ∀ k, w.heap.size + 3 ≤ k → (wr.setCell ⟨w.heap.size + 1, 0, none⟩ (.slice va q vc)).heap[k]? = wr.heap[k]? := fun k hk => Below.heap_setCell _ _ _ _ (by simp; omega)
      exact ⟨owns_block (ownsRow_baseL HK.out.1 (by omega)) (fun k hk => e4 k (HK.out.1.lt k hk).1), fun i hi => owns_block (ownsRow_baseL (HK.out.2 i hi) (by omega)) (fun k hk => e4 k ((HK.out.2 i hi).lt k hk).1)⟩

theorem ncells_len (S : List Nd) (K : Nat → Value) (q : Nat) : (ncells S K q).length = q * 8 := by
  unfold ncells
  induction q with
  | zero => rfl
  | succ q ih => rw [List.range_succ, List.flatMap_append, List.length_append, ih]; simp [ncell]; omega

theorem ncells_at (S : List Nd) (K : Nat → Value) {q i j : Nat} (hi : i < q) (hj : j < 8) : (ncells S K q)[i * 8 + j]? = (ncell (nd S i) (K i))[j]? := by
  induction q with
  | zero => omega
  | succ q ih =>
    have hs : ncells S K (q + 1) = ncells S K q ++ ncell (nd S q) (K q) := by unfold ncells; rw [List.range_succ, List.flatMap_append]; simp
    rw [hs]
    by_cases e : i < q
    · rw [List.getElem?_append_left (by rw [ncells_len]; omega)]
      exact ih e
    · have : i = q := by omega
      subst this
      rw [List.getElem?_append_right (by rw [ncells_len]; omega), ncells_len]
      congr 1
      omega

/-- What was made reads as the store. -/
theorem OwnK.nds {B : Nat} {S : List Nd} {K : Nat → Value} {v : Value} {w : World} (h : OwnK B S S.length K v w) : ∃ a c, v = .slice a S.length c ∧ NdsAt w a S := by
  obtain ⟨hm, hk⟩ := h
  have hm' := hm
  obtain ⟨hl, h⟩ := hm
  rcases h with ⟨rfl, h0⟩ | ⟨g, cap, cur, rfl, hb, hg, h1, h2, h3, h4⟩
  · exact ⟨none, 0, by rw [h0], fun i hi => by omega⟩
  · refine ⟨some ⟨g, 0, none⟩, cap, rfl, fun i hi => ⟨g, 0, rfl, ?_⟩⟩
    have hc : ∀ j, j < 8 → w.cell? ⟨g, i * 8 + j, none⟩ = (ncell (nd S i) (K i))[j]? := fun j hj => by
      rw [← ncells_at S K hi hj]
      exact hm'.cellAt (i * 8 + j) (by omega)
    obtain ⟨sa, sc, e1, e2⟩ := ints_own (hk i hi)
    rw [Nat.zero_add]
    refine ⟨hc 0 (by omega), hc 1 (by omega), hc 2 (by omega), hc 3 (by omega), hc 4 (by omega), ⟨sa, sc, ?_, e2⟩, hc 6 (by omega), hc 7 (by omega)⟩
    rw [hc 5 (by omega), e1]
    rfl

theorem OwnK.ndsAt {B : Nat} {S : List Nd} {n : Nat} {K : Nat → Value} {g cap : Nat} {w : World} (h : OwnK B S n K (.slice (some ⟨g, 0, none⟩) n cap) w) (hl : S.length = n) : NdsAt w (some ⟨g, 0, none⟩) S := by
  subst hl
  obtain ⟨a, c, e, hN⟩ := h.nds
  cases e
  exact hN

theorem ncells_ext {S S' : List Nd} {K K' : Nat → Value} {q k j : Nat} {u : Value} (hj : j < 8)
    (hc : ∀ i, i < q → ∀ j', j' < 8 → (ncell (nd S' i) (K' i))[j']? = if i = k ∧ j' = j then some u else (ncell (nd S i) (K i))[j']?) : (ncells S K q).set (k * 8 + j) u = ncells S' K' q := by
  refine List.ext_getElem? (fun m => ?_)
  by_cases hm : m < q * 8
  · have h1 : m / 8 < q := by omega
    have h2 : m % 8 < 8 := by omega
    have e : m = m / 8 * 8 + m % 8 := by omega
    rw [e, ncells_at S' K' h1 h2, hc _ h1 _ h2, List.getElem?_set]
    by_cases hh : m / 8 = k ∧ m % 8 = j
    · rw [if_pos (by omega), if_pos (by rw [ncells_len]; omega), if_pos hh]
    · rw [if_neg (by omega), if_neg hh, ncells_at S K h1 h2]
  · rw [List.getElem?_eq_none (by rw [List.length_set, ncells_len]; omega), List.getElem?_eq_none (by rw [ncells_len]; omega)]

/-- One cell of the nodes' row is changed. -/
theorem OwnK.put {B : Nat} {S S' : List Nd} {q : Nat} {K K' : Nat → Value} {g cap : Nat} {w : World} (h : OwnK B S q K (.slice (some ⟨g, 0, none⟩) q cap) w) {k j : Nat} {u : Value} (hj : j < 8)
    (hc : ∀ i, i < q → ∀ j', j' < 8 → (ncell (nd S' i) (K' i))[j']? = if i = k ∧ j' = j then some u else (ncell (nd S i) (K i))[j']?)
    (hks : ∀ i, i < q → w.ownsRow B 3 1 (K' i) (nd S' i).ks.length ((nd S' i).ks.map (Value.int .i64))) : OwnK B S' q K' (.slice (some ⟨g, 0, none⟩) q cap) (w.setCell ⟨g, k * 8 + j, none⟩ u) := by
  refine ⟨?_, fun i hi => ?_⟩
  · have h2 := (h.1.stored (k * 8 + j) u).1
    rw [ncells_ext hj hc] at h2
    exact h2
  · exact owns_block (hks i hi) (fun b hb => Below.heap_setCell _ _ _ _ (fun e => owns_apart (hks i hi) h.1 (by decide) b hb (by rw [show b = g from e]; rfl)))

theorem OwnK.other {B : Nat} {S : List Nd} {q : Nat} {K : Nat → Value} {v : Value} {w w' : World} (h : OwnK B S q K v w) (hb : ∀ b, B ≤ b → b < w.heap.size → w'.heap[b]? = w.heap[b]?) : OwnK B S q K v w' :=
  ⟨owns_block h.1 (fun k hk => hb k (h.1.lt k hk).1 (h.1.lt k hk).2), fun i hi => owns_block (h.2 i hi) (fun k hk => hb k ((h.2 i hi).lt k hk).1 ((h.2 i hi).lt k hk).2)⟩

theorem OwnK.cellAt {B : Nat} {S : List Nd} {q : Nat} {K : Nat → Value} {g cap : Nat} {w : World} (h : OwnK B S q K (.slice (some ⟨g, 0, none⟩) q cap) w) {i j : Nat} (hi : i < q) (hj : j < 8) : w.cell? ⟨g, i * 8 + j, none⟩ = (ncell (nd S i) (K i))[j]? := by
  rw [← ncells_at S K hi hj]
  exact h.1.cellAt (i * 8 + j) (by omega)
theorem OwnK.frozenAt {B : Nat} {S : List Nd} {q : Nat} {K : Nat → Value} {g cap : Nat} {w : World} (h : OwnK B S q K (.slice (some ⟨g, 0, none⟩) q cap) w) (j : Nat) : w.frozen? ⟨g, j, none⟩ = false := h.1.frozenAt j

/-- A node of the row is changed in one of its cells; not in its children. -/
theorem OwnK.put1 {B : Nat} {S : List Nd} {q : Nat} {K : Nat → Value} {g cap : Nat} {w : World} (h : OwnK B S q K (.slice (some ⟨g, 0, none⟩) q cap) w) {k j : Nat} {u : Value} (hk : k < q) (hq : S.length = q) (hj : j < 8) (x : Nd)
    (hx : ∀ v j', j' < 8 → (ncell x v)[j']? = if j' = j then some u else (ncell (nd S k) v)[j']?) (hxk : x.ks = (nd S k).ks) : OwnK B (S.set k x) q K (.slice (some ⟨g, 0, none⟩) q cap) (w.setCell ⟨g, k * 8 + j, none⟩ u) := by
  refine h.put hj (fun i hi j' hj' => ?_) (fun i hi => ?_)
  · by_cases e : i = k
    · subst e
      rw [nd_set S i i x (by omega), if_pos rfl, hx _ _ hj']
      by_cases e2 : j' = j
      · rw [if_pos e2, if_pos ⟨rfl, e2⟩]
      · rw [if_neg e2, if_neg (fun hh => e2 hh.2)]
    · rw [nd_set S k i x (by omega), if_neg e, if_neg (fun hh => e hh.1)]
  · by_cases e : i = k
    · subst e
      rw [nd_set S i i x (by omega), if_pos rfl, hxk]
      exact h.2 i hi
    · rw [nd_set S k i x (by omega), if_neg e]
      exact h.2 i hi
end Go.Proofs.YtgjfmepbphfjoaaGreat
