/-
  Rows of graphs of a call's own; append of whatever graphs onto one, in a region that draws.
-/
import Derived.Test.YtgjfmepbphfjoaaUPf
import Derived.Test.YtgjfmepbphfjoaaUNx
namespace Go.Proofs.Ytgjfmepbphfjoaa
open Go.RowKit Go.ChangeShapes Go.WideShapes
set_option linter.unusedVariables false

set_option maxRecDepth 100000 in
theorem infoGraph : (Try.prog.info? 25).map (fun i => (i.zero, i.size, i.bytes)) = some (some (.agg #[.slice none 0 0]), 1, 24) := by kernel_rfl

/-- A graph, as the value that lies in a cell. -/
def GrV (w : World) (v : Value) (G : List Cl) : Prop := ∃ ga gc, v = .slice ga G.length gc ∧ ClsAt w ga G
theorem GrV.below {w w' : World} {v : Value} {G : List Cl} (h : GrV w v G) (hb : Below w.heap.size w w') : GrV w' v G := by
  obtain ⟨ga, gc, e, hg⟩ := h
  exact ⟨ga, gc, e, hg.below hb⟩
def grow (n : Nat) (J : Nat → Value) : List Value := (List.range n).map J
theorem grow_len (n : Nat) (J : Nat → Value) : (grow n J).length = n := by unfold grow; simp
theorem grow_at {n : Nat} {J : Nat → Value} {i : Nat} (h : i < n) : (grow n J)[i]? = some (J i) := by unfold grow; simp [h]
theorem grow_snoc (n : Nat) (J : Nat → Value) (v : Value) : grow n J ++ [v] = grow (n + 1) (fun i => if i = n then v else J i) := by
  unfold grow
  rw [List.range_succ, List.map_append]
  congr 1
  · refine List.map_congr_left (fun i hi => ?_)
    have := List.mem_range.1 hi
    rw [if_neg (by omega)]
  · simp
theorem grow_one {w : World} {C : List (List Cl)} {J : Nat → Value} (h : ∀ i, i < C.length → GrV w (J i) (gr C i)) : ∀ u ∈ grow C.length J, u.oneCell' = true := fun u hu => by
  unfold grow at hu
  obtain ⟨i, hi, rfl⟩ := List.mem_map.1 hu
  obtain ⟨ga, gc, e, _⟩ := h i (List.mem_range.1 hi)
  rw [e]
  rfl
theorem grs_own {B : Nat} {w : World} {v : Value} {C : List (List Cl)} {J : Nat → Value} (h : w.ownsRow B 25 1 v C.length (grow C.length J)) (hg : ∀ i, i < C.length → GrV w (J i) (gr C i)) : GrsV w v C := by
  have hc := fun g hg => h.cells (g := g) hg
  rcases h.2 with ⟨rfl, h0⟩ | ⟨g, cap, cur, rfl, _, _, hcap, hmax, _⟩
  · exact ⟨none, 0, by rw [h0], ⟨fun _ => rfl, by omega, by omega⟩, fun i hi => by omega⟩
  · refine ⟨some ⟨g, 0, none⟩, cap, rfl, ⟨(fun h => by cases h), hcap, (by unfold maxLen at hmax; omega)⟩, fun i hi => ?_⟩
    obtain ⟨ga, gc, e, hcl⟩ := hg i hi
    refine ⟨g, 0, ga, gc, rfl, ?_, hcl⟩
    have := hc g rfl i (J i) (grow_at hi)
    rw [Addr.add_lit, Nat.zero_add] at this
    rw [Nat.zero_add, this, e]
/-- The values of graphs in memory. -/
def jOf (w : World) (a : Option Addr) (i : Nat) : Value := match a with
  | some ad => (w.cell? (ad.add i)).getD undef
  | none => undef
theorem j_grs {w : World} {a : Option Addr} {C : List (List Cl)} (h : GrsAt w a C) : ∀ i, i < C.length → GrV w (jOf w a i) (gr C i) := fun i hi => by
  obtain ⟨b, o, ga, gc, rfl, c0, hg⟩ := h i hi
  exact ⟨ga, gc, by unfold jOf; dsimp only; rw [Addr.add_lit, c0]; rfl, hg⟩
theorem j_src {w : World} {ad : Addr} {C : List (List Cl)} (h : GrsAt w (some ad) C) : ∀ j u, (grow C.length (jOf w (some ad)))[j]? = some u → w.cell? (ad.add j) = some u := fun j u hj => by
  by_cases hm : j < C.length
  · rw [grow_at hm] at hj
    obtain ⟨b, o, ga, gc, e, c0, hg⟩ := h j hm
    cases e
    have hj2 : jOf w (some ⟨b, o, none⟩) j = u := by simpa using hj
    unfold jOf at hj2
    dsimp only at hj2
    rw [Addr.add_lit, c0] at hj2
    rw [Addr.add_lit, c0, ← hj2]
    rfl
  · rw [List.getElem?_eq_none (by rw [grow_len]; omega)] at hj
    cases hj
theorem own_g1 (V : World) : (V.alloc (.cells #[] 25)).ownsRow V.heap.size 25 1 (.slice (some ⟨V.heap.size, 0, none⟩) 0 0) 0 [] := ⟨by simp, Or.inr ⟨V.heap.size, 0, #[], rfl, Nat.le_refl _, heap_alloc_new V _, by omega, by unfold maxLen; omega, by simp, by simp⟩⟩
theorem own_g2 (V : World) (o : Obj) : ((V.alloc o).alloc (.cells #[] 25)).ownsRow V.heap.size 25 1 (.slice (some ⟨V.heap.size + 1, 0, none⟩) 0 0) 0 [] := by
  have h := own_g1 (V.alloc o)
  simp only [World.size_alloc] at h
  exact ownsRow_baseL h (by omega)
theorem news1 {W : World} {b : Nat} {v : Value} (c0 : W.cell? ⟨b, 0, none⟩ = some v) : ∀ j u, ([v] : List Value)[j]? = some u → W.cell? ((⟨b, 0, none⟩ : Addr).add j) = some u := fun j u hj => by
  rw [Addr.add_lit]
  match j, hj with
  | 0, hj => cases hj; exact c0
  | j + 1, hj => simp at hj
theorem grown_refl (w : World) (r : Option Nat) : w.grownBy w r := ⟨rfl, rfl, rfl, Nat.le_refl _, fun _ _ _ => rfl⟩

/-- append onto a row of the call's own of whatever slice, nil too, in a region that draws. -/
theorem step_append_all {P : Program} {ops : Array Oper} {o : Oper} {a : Act} {w : World} {K : Act → World → Prop} {Q : Exit → Act → World → Prop} {E : Prop}
    (hg : o.guard = none) (s x : Operand) (t : TypeId) (hop : o.op = Op.call { callee := Callee.builtin Builtin.append, args := #[s, x], argTypes := #[t, t] })
    (base : Nat) (e : TypeId) (i : TypeInfo) (z : Value) (size bytes : Nat) (h1 : P.underlying t = some (.slice e)) (h2 : P.info? e = some i) (h3 : i.zero = some z) (h4 : i.size = size) (h5 : i.bytes = bytes) (h6 : z.cells.size = size) (h7 : 0 < size)
    (v : Value) (n : Nat) (xs : List Value) (hs : a.eval s = v) (hown : w.ownsRow base e size v n xs)
    (sa : Option Addr) (m c : Nat) (news : List Value) (hnil : sa = none → m = 0 ∧ c = 0) (hx : a.eval x = .slice sa m c) (hn : news.length = m * size) (hc : ∀ ad, sa = some ad → ∀ j u, news[j]? = some u → w.cell? (ad.add j) = some u) (h1c : ∀ u ∈ news, u.oneCell' = true)
    (b1 : n + m ≤ maxLen) (b2 : (n + m) * bytes ≤ 140737488355328) (hbase : base ≤ w.heap.size)
    (hK : ∀ v' w', w'.ownsRow base e size v' (n + m) (xs ++ news) → w.grownBy w' v.ownBlock → K (a.put o.dst v') w') :
    if Region.wanted o (yielded ops a.tmps) = true then Oper.wp P o a w K Q else E := by
  have hw : Region.wanted o (yielded ops a.tmps) = true := by simp [Region.wanted, hg]
  rw [if_pos hw]
  cases sa with
  | some ad => exact wp_append_own w s x t hop base e i z size bytes h1 h2 h3 h4 h5 h6 h7 v n xs hs hown ad m c news hx hn (hc ad rfl) h1c b1 b2 hbase (fun v' w' r1 r2 _ => hK v' w' r1 r2)
  | none =>
    obtain ⟨rfl, rfl⟩ := hnil rfl
    have en : news = [] := List.eq_nil_of_length_eq_zero (by rw [hn]; simp)
    subst en
    have hrun := run_append_owned_none (P := P) (w := w) base t o.type e i size h1 h2 v n xs hown
    unfold Oper.wp
    simp [execOp, hop, resolve, invoke, builtin, hs, hx, hrun, Result.andThen]
    exact hK v w (by simpa using hown) (grown_refl w _)

section
variable {P : Program} {ops : Array Oper} {Q : Exit → Act → World → Prop} {md : Region.Mode} {S : World → Prop} {x : Nat}
theorem wpAnyX_two {i j : Nat} {oi oj : Oper} {fuel : Nat} {listed : Array Bool} {a : Act} {w : World} (hr : Region.ready md ops listed = [i, j]) (hi : ops[i]? = some oi) (hj : ops[j]? = some oj)
    (h : ∀ K' : Act → World → Prop, Shut (∀ a w, S w → (S w → wpAnyX P md ops Q S x fuel (listed.setIfInBounds i true) a w) → K' a w) → if Region.wanted oi (yielded ops a.tmps) = true then Oper.wp P oi a w K' Q else K' (a.put oi.dst undef) w)
    (h' : ∀ K' : Act → World → Prop, Shut (∀ a w, S w → (S w → wpAnyX P md ops Q S x fuel (listed.setIfInBounds j true) a w) → K' a w) → if Region.wanted oj (yielded ops a.tmps) = true then Oper.wp P oj a w K' Q else K' (a.put oj.dst undef) w) :
    wpAnyX P md ops Q S x (fuel + 1) listed a w := by
  refine ⟨fun h0 => (by rw [hr] at h0; cases h0), fun k hk => ?_⟩
  rw [hr] at hk
  have hk : k = i ∨ k = j := by simpa using hk
  rcases hk with e | e
  · subst e
    exact wpOp_step hi (fun K' hK => h K' (fun a w hS hW => hK a w ⟨Or.inr hS, hW hS⟩))
  · subst e
    exact wpOp_step hj (fun K' hK => h' K' (fun a w hS hW => hK a w ⟨Or.inr hS, hW hS⟩))
end
end Go.Proofs.Ytgjfmepbphfjoaa
