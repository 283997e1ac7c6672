/-
  The contract of tree.Order.
-/
import Derived.Test.YtgjfmepbphfjoaaGreatUSkSl
import Derived.Laws.EntriesVeiled
import Derived.Test.YtgjfmepbphfjoaaGreatUSaSbScBa
import Derived.Shelf.SlGeneric
import Derived.Shelf.Spec.SlicesInsertGrow
import Derived.Ground.Names2Prog
import Derived.Ground.SlgfProg
import Derived.Shelf.SlicesE.DeleteFunc
import Derived.Test.YtgjfmepbphfjoaaGreatProg
namespace Go.Proofs.YtgjfmepbphfjoaaGreat
open Go.RowKit

theorem order_low {w w1 : World} {a : Option Addr} {n c : Nat} {p u : Int} {o3 : Obj} (hb : Below (w.heap.size + 1 + 1 + 1) (((w.alloc (.cells #[.slice a n c] 24)).alloc (.cells #[.int .i64 p, .int .i64 u] 39)).alloc o3) w1) :
    w1.cell? ⟨w.heap.size, 0, none⟩ = some (.slice a n c) ∧ w1.cell? ⟨w.heap.size + 1, 0, none⟩ = some (.int .i64 p) ∧ w1.cell? ⟨w.heap.size + 1, 1, none⟩ = some (.int .i64 u) :=
  ⟨(hb.cell (by simp; omega)).trans (by go_simp), (hb.cell (by simp)).trans (by go_simp), (hb.cell (by simp)).trans (by go_simp)⟩

theorem two_more {w1 : World} {p : Addr} {v : Value} (h : w1.cell? p = some v) (o1 o2 : Obj) : ((w1.alloc o1).alloc o2).cell? p = some v :=
  ((((Below.refl _ _).alloc (Nat.le_refl _) o1).alloc (by simp) o2).cell (World.block_lt_of_cell? _ _ h)).trans h

theorem hands_one (W : World) (b : Nat) (p u : Int) (h1 : W.cell? ⟨b, 0, none⟩ = some (.int .i64 p)) (h2 : W.cell? ⟨b, 1, none⟩ = some (.int .i64 u)) : HandsAt W (some ⟨b, 0, none⟩) [(p, u)] := fun i hi => by
  have : i = 0 := by simpa using hi
  subst this
  exact ⟨b, 0, rfl, by simpa using h1, by simpa using h2⟩

theorem ints_of_own {W w2 : World} {v : Value} {l : List Int} (hown : w2.ownsRow W.heap.size 3 1 v l.length (l.map (Value.int .i64))) : ∃ sa cap, v = .slice sa l.length cap ∧ IntsAt w2 sa l ∧ l.length ≤ cap ∧ cap ≤ 9223372036854775807 := by
  obtain ⟨hl, h⟩ := hown
  rcases h with ⟨rfl, h0⟩ | ⟨g, cap, cur, rfl, _, hg, h1, h2, h3, h4⟩
  · exact ⟨none, 0, by rw [h0], fun i hi => by omega, by omega, by omega⟩
  · refine ⟨some ⟨g, 0, none⟩, cap, rfl, fun i hi => ⟨g, 0, rfl, ?_⟩, h1, by unfold maxLen at h2; omega⟩
    have h5 : (cur.toList.take (l.length * 1))[i]? = some (.int .i64 (l.getD i 0)) := by
      rw [h4, List.getElem?_map, List.getElem?_eq_getElem hi, getD_elem l 0 hi]; rfl
    rw [List.getElem?_take, if_pos (by omega)] at h5
    simp only [Nat.zero_add, World.cell?, hg]
    simpa using h5

set_option maxHeartbeats 1000000 in
/-- Walk, over a function that answers rows which stand while Walk goes on. -/
theorem walk_any (ks : Nat → List Int) (n K : Nat) (caps : Array Value) (k f : Nat) (w : World)
    (eg : ∀ args w, (callFunc K args).run Tryz.prog w = .ok (.enter K args) w)
    (hrow : ∀ p, p < n → ∃ ka kc, (ks p).length ≤ 9223372036854775807 ∧ (∀ w1, Below w.heap.size w w1 → IntsAt w1 ka (ks p)) ∧ ∀ w1, Below w.heap.size w w1 → Calls Tryz.prog K (#[.int .i64 p] ++ caps) w1 fun e w2 => e = .returned (.slice ka (ks p).length kc) ∧ Below w1.heap.size w1 w2)
    (hk : k < n) (hD : DeepG ks n f k) (hlen : (orderG ks f k).length ≤ 1000000) :
    Calls Tryz.prog 132 #[.int .i64 k, .func (.func K) #[] caps] w fun e w' => ∃ sa cap, e = .returned (.slice sa (orderG ks f k).length cap) ∧ Below w.heap.size w w' ∧ IntsAt w' sa (orderG ks f k) ∧ (orderG ks f k).length ≤ cap ∧ cap ≤ 9223372036854775807 := by
  have D2 : Hid (∀ (w1 : World), w.heap.size + 3 ≤ w1.heap.size → Below w.heap.size w w1 →
      w1.cell? ⟨w.heap.size, 0, none⟩ = some (.func (.func K) #[] caps) →
      w1.cell? ⟨w.heap.size + 2, 0, none⟩ = some (.func (.func 143) #[] #[.pointer (some ⟨w.heap.size + 1, 0, none⟩), .pointer (some ⟨w.heap.size, 0, none⟩), .pointer (some ⟨w.heap.size + 2, 0, none⟩)]) →
      w1.cell? ⟨w.heap.size + 1, 0, none⟩ = some (.slice none 0 0) → w1.frozen? ⟨w.heap.size + 1, 0, none⟩ = false →
      Calls Tryz.prog 143 #[.int .i64 k, .pointer (some ⟨w.heap.size + 1, 0, none⟩), .pointer (some ⟨w.heap.size, 0, none⟩), .pointer (some ⟨w.heap.size + 2, 0, none⟩)] w1 fun e w2 => e = .returned (.tuple #[]) ∧ OrdI w1 (w.heap.size + 1) (orderG ks f k) w2) := fun w1 hsz hb1 h1 h2 h3 h4 => by
    have hOB : ∀ w2, Off (fun k => k = w.heap.size + 1) w1 w2 → Below w.heap.size w w2 := fun w2 h2 => hb1.trans (h2.below hb1.size (fun k hk => by rw [hk]; omega))
    have h := walkc_any ks n K caps w1 (w.heap.size + 1) w.heap.size (w.heap.size + 2) (by omega) (by omega) (by omega) (by omega) (by omega) eg h1 h2 (fun p hp => by
      obtain ⟨ka, kc, r0, r1, r2⟩ := hrow p hp
      exact ⟨ka, kc, r0, fun w2 h2 => r1 w2 (hOB w2 h2), fun w2 h2 => r2 w2 (hOB w2 h2)⟩) f k [] w1 hk hD (by simpa using hlen) ⟨Off.refl _ _, _, h3, h4, World.ownsRow_nil _ _ _ _⟩
    simpa using h
  clear hrow hD
  generalize hl : orderG ks f k = l at *
  have HL : Hid _ := hl
  clear hl
  go_enter Tryz.func132, Tryz.ntmps132
  go_wp2_with fail
  refine (D2.out _ (by simp) ((((Below.refl _ _).alloc (Nat.le_refl _) _).alloc (by simp) _).alloc (by simp; omega) _) (by go_simp) (by go_simp) (by go_simp) (by go_simp)).mono ?_
  rintro e w2 ⟨rfl, hO, v, hc, hf, hown⟩
  obtain ⟨sa, cap, rfl, hia, hcap, hcm⟩ := ints_of_own hown
  have HIA : Hid _ := hia
  have HB : Below w.heap.size w w2 := ((((Below.refl _ _).alloc (Nat.le_refl _) _).alloc (by simp) _).alloc (by simp; omega) _).trans (hO.below (by simp; omega) (fun k hk => by rw [hk]; omega))
  clear hown hO hia
  go_wp2
  refine bodyPost_ret (v := .slice sa l.length cap) (by simp [results, Tryz.results132, go_sem]) rfl ⟨sa, cap, rfl, HB, HIA.out, hcap, hcm⟩

set_option maxHeartbeats 1000000 in
theorem order1_any (a : Option Addr) (c : Nat) (S : List Nd) (bs p : Nat) (ka : Option Addr) (kc : Nat) (L : Nat) (w1 : World) (hp : p < S.length) (hcs : w1.cell? ⟨bs, 0, none⟩ = some (.slice a S.length c))
    (hc : ∃ b o, a = some ⟨b, o, none⟩ ∧ w1.cell? ⟨b, o + p * 8 + 5, none⟩ = some (.slice ka L kc)) :
    Calls Tryz.prog 137 #[.int .i64 p, .pointer (some ⟨bs, 0, none⟩)] w1 fun e w2 => e = .returned (.slice ka L kc) ∧ Below w1.heap.size w1 w2 := by
  obtain ⟨b, o, rfl, hc5⟩ := hc
  have hp2 : (p : Int) < (S.length : Int) := by omega
  generalize S.length = n at *
  go_enter Tryz.func137, Tryz.ntmps137
  go_wp2
  go_ret
  exact ⟨rfl, Below.refl _ _⟩

set_option maxHeartbeats 1000000 in
theorem order_err (a : Option Addr) (c : Nat) (S : List Nd) (p u E : Int) (w : World) (hN : S.length ≤ 9223372036854775807) (hB : Big S) (hS : NdsAt w a S) (hE : tcheckE S [(p, u)] = E) (hE0 : E ≠ 0) :
    Calls Tryz.prog 127 #[.agg #[.slice a S.length c], .agg #[.int .i64 p, .int .i64 u]] w fun e w' => e = .returned (.tuple #[.slice none 0 0, .int .i64 E]) ∧ Below w.heap.size w w' := by
  have d1 := fun (W : World) (ha : Option Addr) (hW : NdsAt W a S) (hH : HandsAt W ha [(p, u)]) => tcheck_any a c S ha 1 [(p, u)] W hN hB hW (by simp) hH
  rw [hE] at d1
  have D1 : Hid _ := d1
  have HS : Hid (NdsAt w a S) := hS
  clear hS d1 hE hB
  have hz : (E == 0) = false := by simp [hE0]
  generalize S.length = n at *
  go_enter Tryz.func127, Tryz.ntmps127
  go_wp2_with (go_at_call 105; refine (D1.out _ _ (HS.out.below ((((Below.refl _ _).alloc (Nat.le_refl _) _).alloc (by simp) _).alloc (by simp; omega) _)) (hands_one _ _ _ _ (by go_simp) (by go_simp))).mono ?_; rintro e w1 ⟨rfl, hb1⟩)
  refine bodyPost_ret (v := .tuple #[.slice none 0 0, .int .i64 E]) (by simp [results, Tryz.results127, go_sem]) rfl ⟨rfl, ?_⟩
  exact ((((Below.refl _ _).alloc (Nat.le_refl _) _).alloc (by simp) _).alloc (by simp; omega) _).trans (hb1.mono (by simp; omega))

set_option maxHeartbeats 1000000 in
theorem order_ok (a : Option Addr) (c : Nat) (S : List Nd) (k f : Nat) (u : Int) (w : World) (hN : S.length ≤ 9223372036854775807) (hB : Big S) (hS : NdsAt w a S) (hE : tcheckE S [((k : Int), u)] = 0) (hk : k < S.length) (hD : Deep S f k) (hlen : (orderF S f k).length ≤ 1000000) :
    Calls Tryz.prog 127 #[.agg #[.slice a S.length c], .agg #[.int .i64 k, .int .i64 u]] w fun e w' => ∃ sa cap, e = .returned (.tuple #[.slice sa (orderF S f k).length cap, .int .i64 0]) ∧ Below w.heap.size w w' ∧ IntsAt w' sa (orderF S f k) ∧ (orderF S f k).length ≤ cap ∧ cap ≤ 9223372036854775807 := by
  have d1 := fun (W : World) (ha : Option Addr) (hW : NdsAt W a S) (hH : HandsAt W ha [((k : Int), u)]) => tcheck_any a c S ha 1 [((k : Int), u)] W hN hB hW (by simp) hH
  rw [hE] at d1
  have D1 : Hid _ := d1
  have HS : Hid (NdsAt w a S) := hS
  have D2 : Hid (∀ (w1 : World) (bs : Nat), w1.cell? ⟨bs, 0, none⟩ = some (.slice a S.length c) → Below w.heap.size w w1 →
      Calls Tryz.prog 132 #[.int .i64 k, .func (.func 137) #[] #[.pointer (some ⟨bs, 0, none⟩)]] w1 fun e w' => ∃ sa cap, e = .returned (.slice sa (orderF S f k).length cap) ∧ Below w1.heap.size w1 w' ∧ IntsAt w' sa (orderF S f k) ∧ (orderF S f k).length ≤ cap ∧ cap ≤ 9223372036854775807) := fun w1 bs h1 hb1 => by
    have hbs := World.block_lt_of_cell? _ _ h1
    have h := walk_any (fun p => (nd S p).ks) S.length 137 #[.pointer (some ⟨bs, 0, none⟩)] k f w1 (enters_of Tryz.func137 (by kernel_rfl) rfl) (fun p hp => by
      obtain ⟨b, o, ea, c0, c1, c2, c3, c4, ⟨ka, kc, c5, hks⟩, c6, c7⟩ := hS p hp
      have hks' : ∀ w2, Below w1.heap.size w1 w2 → Below w.heap.size w w2 := fun w2 h2 => hb1.trans (h2.mono hb1.size)
      exact ⟨ka, kc, hB p hp, fun w2 h2 => hks.below (hks' w2 h2), fun w2 h2 => order1_any a c S bs p ka kc _ w2 hp ((h2.cell (by exact hbs)).trans h1) ⟨b, o, ea, ((hks' w2 h2).cell (by exact World.block_lt_of_cell? _ _ c5)).trans c5⟩⟩) hk (deepG_of hD) (by rw [orderG_eq]; exact hlen)
    rw [orderG_eq] at h
    exact h
  clear hS d1 hE hB hD
  generalize S.length = n at *
  generalize hl : orderF S f k = l at *
  have HL : Hid _ := hl
  clear hl
  go_enter Tryz.func127, Tryz.ntmps127
  go_wp2_with (first
    | (go_at_call 105; refine (D1.out _ _ (HS.out.below ((((Below.refl _ _).alloc (Nat.le_refl _) _).alloc (by simp) _).alloc (by simp; omega) _)) (hands_one _ _ _ _ (by go_simp) (by go_simp))).mono ?_; rintro e w1 ⟨rfl, hb1⟩; simp only [World.size_alloc] at hb1; obtain ⟨l0, l1, l2⟩ := order_low hb1; have hs1 := hb1.size; simp only [World.size_alloc] at hs1; have hb0 : Below w.heap.size w w1 := ((((Below.refl _ _).alloc (Nat.le_refl _) _).alloc (by simp) _).alloc (by simp; omega) _).trans (hb1.mono (by omega)))
    | (go_at_call 132; refine (D2.out _ _ l0 hb0).mono ?_; rintro e w2 ⟨sa, cap, rfl, hb2, hia, hcap, hcm⟩; have HIA : Hid _ := hia; clear hia; have HB2 : Hid _ := hb2; clear hb2)
    | go_in)
  refine bodyPost_ret (v := .tuple #[.slice sa l.length cap, .int .i64 0]) (by simp [results, Tryz.results127, go_sem]) rfl ⟨sa, cap, rfl, hb0.trans (HB2.out.mono hb0.size), HIA.out, hcap, hcm⟩
end Go.Proofs.YtgjfmepbphfjoaaGreat

namespace Go.Proofs.YtgjfmepbphfjoaaGreat
open Go.RowKit
set_option linter.unusedVariables false

/-- All that lay in w lies in w' as it lay, but for X. -/
structure OffX (X : Nat → Prop) (w w' : World) : Prop where
  size : w.heap.size ≤ w'.heap.size
  block : ∀ b, b < w.heap.size → ¬ X b → w'.heap[b]? = w.heap[b]?
theorem OffX.refl (X : Nat → Prop) (w : World) : OffX X w w := ⟨Nat.le_refl _, fun _ _ _ => rfl⟩
theorem OffX.of_below {X : Nat → Prop} {w w' : World} (h : Below w.heap.size w w') : OffX X w w' := ⟨h.size, fun b hb _ => h.block b hb⟩
theorem OffX.trans {X : Nat → Prop} {w w' w'' : World} (h : OffX X w w') (k : OffX X w' w'') : OffX X w w'' := ⟨Nat.le_trans h.size k.size, fun b hb hx => (k.block b (Nat.lt_of_lt_of_le hb h.size) hx).trans (h.block b hb hx)⟩
theorem OffX.set {X : Nat → Prop} (w : World) {b o : Nat} (v : Value) (h : X b) : OffX X w (w.setCell ⟨b, o, none⟩ v) := ⟨by simp, fun k _ hk => Below.heap_setCell _ _ _ _ (fun e => hk (by rw [e]; exact h))⟩
theorem OffX.grown {X : Nat → Prop} {w w' : World} {r : Option Nat} (h : w.grownBy w' r) (hx : ∀ b, r = some b → X b) : OffX X w w' := ⟨h.size, fun k hk hn => h.block k hk (fun e => hn (hx k e.symm))⟩
/-- X may grow by what was not there. -/
theorem off_grow {X Y : Nat → Prop} {w w1 w' : World} (hs : w.heap.size ≤ w1.heap.size) (hb : ∀ b, b < w.heap.size → ¬ X b → w1.heap[b]? = w.heap[b]?) (hY : ∀ b, b < w.heap.size → Y b → X b) (h : OffX Y w1 w') : OffX X w w' := ⟨Nat.le_trans hs h.size, fun b h1 h2 => (h.block b (Nat.lt_of_lt_of_le h1 hs) (fun hy => h2 (hY b h1 hy))).trans (hb b h1 h2)⟩
theorem OffX.mono {X Y : Nat → Prop} {w w' : World} (h : OffX X w w') (hXY : ∀ b, X b → Y b) : OffX Y w w' := ⟨h.size, fun b hb hy => h.block b hb (fun hx => hy (hXY b hx))⟩
/-- What stays so, whatever becomes of X. -/
def St (X : Nat → Prop) (P : World → Prop) (w : World) : Prop := ∀ w', OffX X w w' → P w'
theorem St.off {X : Nat → Prop} {P : World → Prop} {w w' : World} (h : St X P w) (ho : OffX X w w') : St X P w' := fun w'' h2 => h w'' (ho.trans h2)
theorem St.at {X : Nat → Prop} {P : World → Prop} {w : World} (h : St X P w) : P w := h w (OffX.refl X w)
theorem St.less {X Y : Nat → Prop} {P : World → Prop} {w : World} (h : St Y P w) (hXY : ∀ b, X b → Y b) : St X P w := fun w' ho => h w' (ho.mono hXY)
theorem St.grow {X Y : Nat → Prop} {P : World → Prop} {w w1 : World} (h : St X P w) (ho : OffX X w w1) (hY : ∀ b, b < w.heap.size → Y b → X b) : St Y P w1 := fun w' h2 => h w' (off_grow ho.size ho.block hY h2)
theorem St.imp {X : Nat → Prop} {P Q : World → Prop} {w : World} (h : St X P w) (hPQ : ∀ V, P V → Q V) : St X Q w := fun w' ho => hPQ w' (h w' ho)
theorem St.and {X : Nat → Prop} {P Q : World → Prop} {w : World} (h : St X P w) (k : St X Q w) : St X (fun V => P V ∧ Q V) w := fun w' ho => ⟨h w' ho, k w' ho⟩
end Go.Proofs.YtgjfmepbphfjoaaGreat

namespace Go.Proofs.YtgjfmepbphfjoaaGreat
open Go.RowKit

/-- Where v stands first, or -1. -/
def idx (ks : List Int) (v : Int) : Int := if v ∈ ks then (ks.idxOf v : Int) else -1

theorem idx_none {ks : List Int} {v : Int} (h : ∀ i, i < ks.length → ks.getD i 0 ≠ v) : idx ks v = -1 ∧ v ∉ ks := by
  have hn : v ∉ ks := fun hm => by
    obtain ⟨i, hi, e⟩ := List.getElem_of_mem hm
    exact h i hi (by rw [getD_elem ks 0 hi]; exact e)
  exact ⟨if_neg hn, hn⟩

theorem idxOf_first : ∀ (ks : List Int) (v : Int) (k : Nat), k < ks.length → ks.getD k 0 = v → (∀ i, i < k → ks.getD i 0 ≠ v) → ks.idxOf v = k
  | [], _, _, h, _, _ => by simp at h
  | x :: r, v, 0, _, h, _ => by
    have : x = v := by simpa using h
    rw [this]; simp
  | x :: r, v, k + 1, hk, h, hf => by
    have hx : x ≠ v := by simpa using hf 0 (by omega)
    have := idxOf_first r v k (by simpa using hk) (by simpa using h) (fun i hi => by simpa using hf (i + 1) (by omega))
    have hx1 : (x == v) = false := beq_eq_false_iff_ne.2 hx
    rw [List.idxOf_cons, this, hx1]
    rfl

theorem idx_some {ks : List Int} {v : Int} {k : Nat} (hk : k < ks.length) (h : ks.getD k 0 = v) (hf : ∀ i, i < k → ks.getD i 0 ≠ v) : idx ks v = k ∧ v ∈ ks := by
  have hm : v ∈ ks := by rw [← h, getD_elem ks 0 hk]; exact List.getElem_mem hk
  exact ⟨by unfold idx; rw [if_pos hm, idxOf_first ks v k hk h hf], hm⟩

set_option maxHeartbeats 400000 in
theorem index_any (a : Option Addr) (c : Nat) (ks : List Int) (v : Int) (w : World) (hbig : ks.length ≤ 9223372036854775807) (hks : IntsAt w a ks) :
    Calls Tryz.prog 46 #[.slice a ks.length c, .int .i64 v] w fun e w' => e = .returned (.int .i64 (idx ks v)) ∧ w' = w := by
  have N : Hid ((∀ i, i < ks.length → ks.getD i 0 ≠ v) → idx ks v = -1) := fun h => (idx_none h).1
  have Sm : Hid (∀ k, k < ks.length → ks.getD k 0 = v → (∀ i, i < k → ks.getD i 0 ≠ v) → idx ks v = k) := fun k h1 h2 h3 => (idx_some h1 h2 h3).1
  generalize idx ks v = r at *
  generalize hn : ks.length = n at *
  have HN : Hid (ks.length = n) := hn
  clear hn
  go_enter Tryz.func46, Tryz.ntmps46
  go_wp2
  go_loopg [8] n (fun g s8 wr => ∃ k : Nat, k ≤ n ∧ n - k ≤ g ∧ s8 = .int .i64 k ∧ wr = w ∧ Hid (∀ i, i < k → ks.getD i 0 ≠ v))
  case atStart => exact ⟨0, by omega, by omega, rfl, rfl, fun i hi => by omega⟩
  case round =>
    obtain ⟨k, hk, hg, rfl, rfl, A⟩ := hrel
    by_cases hlt : k < n
    · obtain ⟨b, o, rfl, hc⟩ := hks k (by rw [HN.out]; exact hlt)
      clear hks
      by_cases he : v = ks.getD k 0
      · have Z := Sm.out k hlt he.symm A.out
        subst Z
        rw [← he] at hc
        clear he
        go_wp2
        go_ret
        exact ⟨rfl, rfl⟩
      · have HE : Hid (ks.getD k 0 ≠ v) := fun e => he e.symm
        have h1 : (v == ks.getD k 0) = false := beq_eq_false_iff_ne.2 he
        generalize hy : ks.getD k 0 = y at *
        have HY : Hid _ := hy
        clear hy
        go_wp2
        go_roundg (n - (k + 1))
        case measure => omega
        case rel =>
          refine ⟨k + 1, by omega, by omega, by go_num, rfl, (show Hid _ from fun i hi => ?_)⟩
          by_cases e : i = k
          · rw [e, HY.out]; exact HE.out
          · exact A.out i (by omega)
    · have : k = n := by omega
      subst this
      have Z := N.out A.out
      subst Z
      clear hks
      go_wp2
      go_ret
      exact ⟨rfl, rfl⟩

theorem idx_nonneg (ks : List Int) (v : Int) : decide (0 ≤ idx ks v) = decide (v ∈ ks) := by
  unfold idx
  by_cases h : v ∈ ks
  · rw [if_pos h, decide_eq_true h, decide_eq_true (by omega)]
  · rw [if_neg h, decide_eq_false h, decide_eq_false (by omega)]

set_option maxHeartbeats 400000 in
theorem contains_any (a : Option Addr) (c : Nat) (ks : List Int) (v : Int) (w : World) (hbig : ks.length ≤ 9223372036854775807) (hks : IntsAt w a ks) :
    Calls Tryz.prog 17 #[.slice a ks.length c, .int .i64 v] w fun e w' => e = .returned (.bool (decide (v ∈ ks))) ∧ w' = w := by
  have h := index_any a c ks v w hbig hks
  rw [← idx_nonneg]
  clear hks
  generalize idx ks v = r at *
  generalize ks.length = n at *
  go_enter Tryz.func17, Tryz.ntmps17
  go_wp2_with (go_at_call 46; refine h.mono ?_; rintro e w' ⟨rfl, rfl⟩)
  go_ret
  exact ⟨rfl, rfl⟩

theorem IntsAt.take {w : World} {a : Option Addr} {ks : List Int} (h : IntsAt w a ks) (k : Nat) : IntsAt w a (ks.take k) := fun i hi => by
  rw [List.length_take] at hi
  obtain ⟨b, o, e, hc⟩ := h i (by omega)
  refine ⟨b, o, e, ?_⟩
  rw [hc, getD_elem ks 0 (by omega), getD_elem (ks.take k) 0 (by rw [List.length_take]; omega), List.getElem_take]

theorem law_low {w w1 : World} {a : Option Addr} {n c : Nat} {p u : Int} (hb : Below (w.heap.size + 1 + 1) ((w.alloc (.cells #[.slice a n c] 24)).alloc (.cells #[.int .i64 p, .int .i64 u] 39)) w1) :
    w1.cell? ⟨w.heap.size, 0, none⟩ = some (.slice a n c) ∧ w1.cell? ⟨w.heap.size + 1, 0, none⟩ = some (.int .i64 p) ∧ w1.cell? ⟨w.heap.size + 1, 1, none⟩ = some (.int .i64 u) :=
  ⟨(hb.cell (by simp; omega)).trans (by go_simp), (hb.cell (by simp)).trans (by go_simp), (hb.cell (by simp)).trans (by go_simp)⟩

theorem two_below (w : World) (o1 o2 : Obj) : Below w.heap.size w ((w.alloc o1).alloc o2) := ((Below.refl _ _).alloc (Nat.le_refl _) _).alloc (by simp) _

end Go.Proofs.YtgjfmepbphfjoaaGreat

namespace Go.Proofs
open Go.Shelf
def Tryz.lays21_ren : Go.Shelf.Ren := ⟨fun | 21 => 145 | 27 => 151 | 28 => 152 | 35 => 154 | 39 => 155 | n => n, fun | 22 => 29 | 3 => 3 | 4 => 4 | 0 => 0 | n => n, fun | n => n⟩
theorem Tryz.lays21 : Go.Proofs.Lays2.n21 Tryz.prog Tryz.lays21_ren := {
  mixed := by kernel_rfl
  f21 := Tryz.func145.trans (congrArg some (by kernel_rfl))
  f27 := Tryz.func151.trans (congrArg some (by kernel_rfl))
  f28 := Tryz.func152.trans (congrArg some (by kernel_rfl))
  f35 := Tryz.func154.trans (congrArg some (by kernel_rfl))
  f39 := Tryz.func155.trans (congrArg some (by kernel_rfl))
  t0 := Tryz.underlying0
  a0 := Tryz.isAgg0
  z0 := Tryz.sizeOf0
  v0 := Tryz.zeroValue0
  t3 := Tryz.underlying3
  a3 := Tryz.isAgg3
  z3 := Tryz.sizeOf3
  v3 := Tryz.zeroValue3
  t4 := Tryz.underlying4
  a4 := Tryz.isAgg4
  z4 := Tryz.sizeOf4
  v4 := Tryz.zeroValue4
  t22 := Tryz.underlying29
  a22 := Tryz.isAgg29
  z22 := Tryz.sizeOf29
  v22 := Tryz.zeroValue29
  i3 := by kernel_rfl }
def Tryz.laysSlH10_del_ren : Go.Shelf.Ren := ⟨fun | 10 => 125 | 6 => 121 | n => n, fun | 22 => 29 | 23 => 3 | 25 => 133 | 3 => 3 | 4 => 4 | 0 => 0 | n => n, fun | n => n⟩
theorem Tryz.laysSlH10_del : Go.Proofs.SlLaysH.n10 Tryz.prog Tryz.laysSlH10_del_ren := {
  mixed := by kernel_rfl
  f6 := ⟨Tryz.f121.name, by decide, Tryz.func121.trans (congrArg some (by kernel_rfl))⟩
  f10 := ⟨Tryz.f125.name, by decide, Tryz.func125.trans (congrArg some (by kernel_rfl))⟩
  t0 := Tryz.underlying0
  a0 := Tryz.isAgg0
  z0 := Tryz.sizeOf0
  v0 := Tryz.zeroValue0
  t3 := Tryz.underlying3
  a3 := Tryz.isAgg3
  z3 := Tryz.sizeOf3
  v3 := Tryz.zeroValue3
  t4 := Tryz.underlying4
  a4 := Tryz.isAgg4
  z4 := Tryz.sizeOf4
  v4 := Tryz.zeroValue4
  t22 := Tryz.underlying29
  a22 := Tryz.isAgg29
  z22 := Tryz.sizeOf29
  v22 := Tryz.zeroValue29
  a23 := Tryz.isAgg3
  z23 := Tryz.sizeOf3
  t25 := Tryz.underlying133
  a25 := Tryz.isAgg133
  z25 := Tryz.sizeOf133
  v25 := Tryz.zeroValue133 }
end Go.Proofs
