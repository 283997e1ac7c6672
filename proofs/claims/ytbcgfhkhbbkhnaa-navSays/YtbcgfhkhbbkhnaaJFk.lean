/-
  The reference's Discarded, LengthOf, FrameAttached.
-/
import Derived.Test.YtbcgfhkhbbkhnaaJFe
import Derived.Test.YtbcgfhkhbbkhnaaJFf
import Derived.Test.YtbcgfhkhbbkhnaaJFj
import Derived.Laws.AppendOwn
namespace Go.Proofs.Ytbcgfhkhbbkhnaa
open Go.RowKit
set_option linter.unusedVariables false

theorem fcells_get (M : List Fr) {m : Nat} (hm : m < M.length * 5) : (fcells M)[m]? = some (frF M m) := by
  unfold fcells
  rw [List.getElem?_map, List.getElem?_range hm]
  rfl
def cells5 (x : Fr) : List Value := [.int .i64 x.p, .int .i64 x.o, .int .i64 x.m, .int .i64 x.t, .bool x.g]
theorem fcells_snoc (L : List Fr) (x : Fr) : fcells (L ++ [x]) = fcells L ++ cells5 x := by
  refine List.ext_getElem? (fun m => ?_)
  have hx := fr_last L x
  have hlen : (fcells L).length = L.length * 5 := fcells_len L
  by_cases h1 : m < L.length * 5
  · rw [List.getElem?_append_left (by rw [hlen]; exact h1), fcells_get _ h1, fcells_get _ (by rw [List.length_append, List.length_singleton]; omega)]
    exact congrArg some (frF_congr (fr_left (by omega)))
  · rw [List.getElem?_append_right (by rw [hlen]; omega), hlen]
    by_cases h2 : m < L.length * 5 + 5
    · rw [fcells_get _ (by rw [List.length_append, List.length_singleton]; omega)]
      obtain ⟨j, rfl⟩ : ∃ j, m = L.length * 5 + j := ⟨m - L.length * 5, by omega⟩
      have hj : j < 5 := by omega
      rw [frF_at _ _ j hj, hx, show L.length * 5 + j - L.length * 5 = j by omega]
      match j, hj with
      | 0, _ => rfl
      | 1, _ => rfl
      | 2, _ => rfl
      | 3, _ => rfl
      | 4, _ => rfl
    · rw [List.getElem?_eq_none (by rw [fcells_len, List.length_append, List.length_singleton]; omega), List.getElem?_eq_none (by simp [cells5]; omega)]
theorem frs_own {B : Nat} {w : World} {v : Value} {L : List Fr} (h : w.ownsRow B 29 5 v L.length (fcells L)) : ∃ a c, v = .slice a L.length c ∧ FrsAt w a L := by
  have hc := fun g hg => h.cells (g := g) hg
  rcases h.2 with ⟨rfl, h0⟩ | ⟨g, cap, cur, rfl, _⟩
  · exact ⟨none, 0, by rw [h0], fun i hi => by omega⟩
  · refine ⟨some ⟨g, 0, none⟩, cap, rfl, fun i hi => ⟨g, 0, rfl, ?_⟩⟩
    have hx : ∀ j, j < 5 → w.cell? ⟨g, 0 + i * 5 + j, none⟩ = some (cellF (fr L i) j) := fun j hj => by
      have := hc g rfl (i * 5 + j) _ (fcells_get L (by omega))
      rw [frF_at L i j hj] at this
      rw [Nat.zero_add]
      rwa [Addr.add_lit, Nat.zero_add] at this
    exact ⟨hx 0 (by omega), hx 1 (by omega), hx 2 (by omega), hx 3 (by omega), hx 4 (by omega)⟩
theorem cells5_one (x : Fr) : ∀ u ∈ cells5 x, u.oneCell' = true := fun u hu => by
  unfold cells5 at hu
  simp at hu
  rcases hu with rfl | rfl | rfl | rfl | rfl <;> rfl
theorem news5 {w : World} {b : Nat} {x : Fr} (c0 : w.cell? ⟨b, 0, none⟩ = some (.int .i64 x.p)) (c1 : w.cell? ⟨b, 1, none⟩ = some (.int .i64 x.o)) (c2 : w.cell? ⟨b, 2, none⟩ = some (.int .i64 x.m)) (c3 : w.cell? ⟨b, 3, none⟩ = some (.int .i64 x.t)) (c4 : w.cell? ⟨b, 4, none⟩ = some (.bool x.g)) : ∀ j u, (cells5 x)[j]? = some u → w.cell? ((⟨b, 0, none⟩ : Addr).add j) = some u := fun j u hj => by
  rw [Addr.add_lit, Nat.zero_add]
  unfold cells5 at hj
  match j, hj with
  | 0, hj => cases hj; exact c0
  | 1, hj => cases hj; exact c1
  | 2, hj => cases hj; exact c2
  | 3, hj => cases hj; exact c3
  | 4, hj => cases hj; exact c4
theorem row_slice {w : World} {B t n : Nat} {size : Nat} {v : Value} {xs : List Value} (h : w.ownsRow B t size v n xs) : ∃ va vc, v = .slice va n vc := by
  rcases h.2 with ⟨e, e0⟩ | ⟨g, cap, cur, e, _⟩
  · exact ⟨none, 0, by rw [e, e0]⟩
  · exact ⟨_, cap, e⟩
theorem ints_oneF {w : World} {b : Nat} {x : Int} (h0 : w.cell? ⟨b, 0, none⟩ = some (.int .i64 x)) : IntsAt w (some ⟨b, 0, none⟩) [x] := fun i hi => by
  match i, hi with
  | 0, _ => exact ⟨b, 0, rfl, h0⟩

/-- Asked of one number. -/
theorem rframed_one (a : Option Addr) (c kb : Nat) (L : List Fr) (k : Int) (w : World) (hN : L.length ≤ 9223372036854775807) (hL : FrsAt w a L) (hk : w.cell? ⟨kb, 0, none⟩ = some (.int .i64 k)) :
    Calls Try.prog 15 #[.slice a L.length c, .slice (some ⟨kb, 0, none⟩) 1 1] w fun e w' => e = .returned (.int .i64 (heldE L k)) ∧ Below w.heap.size w w' :=
  rframed_any a (some ⟨kb, 0, none⟩) c 1 L [k] w hN (by simp) hL (ints_oneF hk)

theorem fholds_at {L : List Fr} {i : Nat} (h : i < L.length) : fholdsE L i = if (fr L i).g = true then 5 else 0 := by
  unfold fholdsE
  rw [if_neg (by omega), Int.toNat_natCast]

theorem dis_take {L : List Fr} {k : Int} {i : Nat} (h : i < L.length) : fcells ((disF L k).take (i + 1)) = fcells ((disF L k).take i) ++ cells5 { fr L i with g := (fr L i).g || inF L i k } := by
  have h2 : i < (disF L k).length := by rw [dis_len]; exact h
  rw [List.take_succ_eq_append_getElem h2, fcells_snoc, ← fr_elem h2, dis_at h]

/-- The bits that both have, of the first i. -/
def sbF (m pm : Int) : Nat → Int
  | 0 => 0
  | 1 => bitF m pm 1
  | 2 => bitF m pm 1 + bitF m pm 2
  | _ => bitF m pm 1 + bitF m pm 2 + bitF m pm 4
theorem sb0 (m pm : Int) : sbF m pm (0 + 1) = sbF m pm 0 + bitF m pm 1 := by show bitF m pm 1 = 0 + bitF m pm 1; omega
theorem sb1 (m pm : Int) : sbF m pm (1 + 1) = sbF m pm 1 + bitF m pm 2 := rfl
theorem sb2 (m pm : Int) : sbF m pm (2 + 1) = sbF m pm 2 + bitF m pm 4 := rfl
theorem bit_yes {m pm c : Int} (h1 : 0 < bits .and .i64 m c) (h2 : 0 < bits .and .i64 pm c) : bitF m pm c = c := if_pos ⟨h1, h2⟩
theorem bit_no {m pm c : Int} (h : ¬ (0 < bits .and .i64 m c ∧ 0 < bits .and .i64 pm c)) : bitF m pm c = 0 := if_neg h
theorem own_e1 (V : World) : (V.alloc (.cells #[] 29)).ownsRow V.heap.size 29 5 (.slice (some ⟨V.heap.size, 0, none⟩) 0 0) 0 [] := ⟨by simp, Or.inr ⟨V.heap.size, 0, #[], rfl, Nat.le_refl _, heap_alloc_new V _, by omega, by unfold maxLen; omega, by simp, by simp⟩⟩
theorem own_e3 (V : World) (o : Obj) : ((V.alloc o).alloc (.cells #[] 29)).ownsRow V.heap.size 29 5 (.slice (some ⟨V.heap.size + 1, 0, none⟩) 0 0) 0 [] := by
  have h := own_e1 (V.alloc o)
  simp only [World.size_alloc] at h
  exact ownsRow_baseL h (by omega)
theorem row5 {w : World} {blk t : Nat} {a0 a1 a2 a3 a4 : Value} (h : w.heap[blk]? = some (.cells #[a0, a1, a2, a3, a4] t (0, 0))) : w.cell? ⟨blk, 0, none⟩ = some a0 ∧ w.cell? ⟨blk, 1, none⟩ = some a1 ∧ w.cell? ⟨blk, 2, none⟩ = some a2 ∧ w.cell? ⟨blk, 3, none⟩ = some a3 ∧ w.cell? ⟨blk, 4, none⟩ = some a4 := by
  refine ⟨?_, ?_, ?_, ?_, ?_⟩ <;> simp [World.cell?, h]
/-- append onto a row of the call's own, in a region that draws. -/
theorem step_append_ownF {P : Program} {ops : Array Oper} {o : Oper} {a : Act} {w : World} {K : Act → World → Prop} {Q : Exit → Act → World → Prop} {E : Prop}
    (hg : o.guard = none) (s x : Operand) (t : TypeId) (hop : o.op = Op.call { callee := Callee.builtin Builtin.append, args := #[s, x], argTypes := #[t, t] })
    (base : Nat) (e : TypeId) (i : TypeInfo) (z : Value) (size bytes : Nat) (h1 : P.underlying t = some (.slice e)) (h2 : P.info? e = some i) (h3 : i.zero = some z) (h4 : i.size = size) (h5 : i.bytes = bytes) (h6 : z.cells.size = size) (h7 : 0 < size)
    (v : Value) (n : Nat) (xs : List Value) (hs : a.eval s = v) (hown : w.ownsRow base e size v n xs)
    (ad : Addr) (m c : Nat) (news : List Value) (hx : a.eval x = .slice (some ad) m c) (hn : news.length = m * size) (hc : ∀ j u, news[j]? = some u → w.cell? (ad.add j) = some u) (h1c : ∀ u ∈ news, u.oneCell' = true)
    (b1 : n + m ≤ maxLen) (b2 : (n + m) * bytes ≤ 140737488355328) (hbase : base ≤ w.heap.size)
    (hK : ∀ v' w', w'.ownsRow base e size v' (n + m) (xs ++ news) → w.grownBy w' v.ownBlock → K (a.put o.dst v') w') :
    if Region.wanted o (yielded ops a.tmps) = true then Oper.wp P o a w K Q else E := by
  have hw : Region.wanted o (yielded ops a.tmps) = true := by simp [Region.wanted, hg]
  rw [if_pos hw]
  exact wp_append_own w s x t hop base e i z size bytes h1 h2 h3 h4 h5 h6 h7 v n xs hs hown ad m c news hx hn hc h1c b1 b2 hbase (fun v' w' r1 r2 _ => hK v' w' r1 r2)

end Go.Proofs.Ytbcgfhkhbbkhnaa
