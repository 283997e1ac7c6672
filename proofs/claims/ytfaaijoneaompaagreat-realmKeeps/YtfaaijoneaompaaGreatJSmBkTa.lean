/-
  The contract of tree.Order.
-/
import Derived.Test.YtfaaijoneaompaaGreatJSkSl
import Derived.Laws.EntriesVeiled
import Derived.Test.YtfaaijoneaompaaGreatJSfSgBa
namespace Go.Proofs.YtfaaijoneaompaaGreat
open Go.RowKit

theorem order_low {w w1 : World} {a : Option Addr} {n c : Nat} {p u : Int} {o3 : Obj} (hb : Below (w.heap.size + 1 + 1 + 1) (((w.alloc (.cells #[.slice a n c] 24)).alloc (.cells #[.int .i64 p, .int .i64 u] 45)).alloc o3) w1) :
    w1.cell? ⟨w.heap.size, 0, none⟩ = some (.slice a n c) ∧ w1.cell? ⟨w.heap.size + 1, 0, none⟩ = some (.int .i64 p) ∧ w1.cell? ⟨w.heap.size + 1, 1, none⟩ = some (.int .i64 u) :=
  ⟨(hb.cell (by simp; omega)).trans (by go_simp), (hb.cell (by simp)).trans (by go_simp), (hb.cell (by simp)).trans (by go_simp)⟩

theorem two_more {w1 : World} {p : Addr} {v : Value} (h : w1.cell? p = some v) (o1 o2 : Obj) : ((w1.alloc o1).alloc o2).cell? p = some v :=
  ((((Below.refl _ _).alloc (Nat.le_refl _) o1).alloc (by simp) o2).cell (World.block_lt_of_cell? _ _ h)).trans h

theorem hands_one (W : World) (b : Nat) (p u : Int) (h1 : W.cell? ⟨b, 0, none⟩ = some (.int .i64 p)) (h2 : W.cell? ⟨b, 1, none⟩ = some (.int .i64 u)) : HandsAt W (some ⟨b, 0, none⟩) [(p, u)] := fun i hi => by
  have : i = 0 := by simpa using hi
  subst this
  exact ⟨b, 0, rfl, by simpa using h1, by simpa using h2⟩

theorem ints_of_own {W w2 : World} {v : Value} {l : List Int} (hown : w2.ownsRow W.heap.size 3 1 v l.length (l.map (Value.int .i64))) : ∃ sa cap, v = .slice sa l.length cap ∧ IntsAt w2 sa l ∧ l.length ≤ cap ∧ cap ≤ 9223372036854775807 := by
  obtain ⟨hl, h⟩ := hown
  rcases h with ⟨rfl, h0⟩ | ⟨g, cap, cur, rfl, _, hg, h1, h2, h3, h4⟩
  · exact ⟨none, 0, by rw [h0], fun i hi => by omega, by omega, by omega⟩
  · refine ⟨some ⟨g, 0, none⟩, cap, rfl, fun i hi => ⟨g, 0, rfl, ?_⟩, h1, by unfold maxLen at h2; omega⟩
    have h5 : (cur.toList.take (l.length * 1))[i]? = some (.int .i64 (l.getD i 0)) := by
      rw [h4, List.getElem?_map, List.getElem?_eq_getElem hi, getD_elem l 0 hi]; rfl
    rw [List.getElem?_take, if_pos (by omega)] at h5
    simp only [Nat.zero_add, World.cell?, hg]
    simpa using h5

set_option maxHeartbeats 1000000 in
/-- Walk, over a function that answers rows which stand while Walk goes on. -/
theorem walk_any (ks : Nat → List Int) (n K : Nat) (caps : Array Value) (k f : Nat) (w : World)
    (eg : ∀ args w, (callFunc K args).run Tryz.prog w = .ok (.enter K args) w)
    (hrow : ∀ p, p < n → ∃ ka kc, (ks p).length ≤ 9223372036854775807 ∧ (∀ w1, Below w.heap.size w w1 → IntsAt w1 ka (ks p)) ∧ ∀ w1, Below w.heap.size w w1 → Calls Tryz.prog K (#[.int .i64 p] ++ caps) w1 fun e w2 => e = .returned (.slice ka (ks p).length kc) ∧ Below w1.heap.size w1 w2)
    (hk : k < n) (hD : DeepG ks n f k) (hlen : (orderG ks f k).length ≤ 1000000) :
    Calls Tryz.prog 80 #[.int .i64 k, .func (.func K) #[] caps] w fun e w' => ∃ sa cap, e = .returned (.slice sa (orderG ks f k).length cap) ∧ Below w.heap.size w w' ∧ IntsAt w' sa (orderG ks f k) ∧ (orderG ks f k).length ≤ cap ∧ cap ≤ 9223372036854775807 := by
  have D2 : Hid (∀ (w1 : World), w.heap.size + 3 ≤ w1.heap.size → Below w.heap.size w w1 →
      w1.cell? ⟨w.heap.size, 0, none⟩ = some (.func (.func K) #[] caps) →
      w1.cell? ⟨w.heap.size + 2, 0, none⟩ = some (.func (.func 97) #[] #[.pointer (some ⟨w.heap.size + 1, 0, none⟩), .pointer (some ⟨w.heap.size, 0, none⟩), .pointer (some ⟨w.heap.size + 2, 0, none⟩)]) →
      w1.cell? ⟨w.heap.size + 1, 0, none⟩ = some (.slice none 0 0) → w1.frozen? ⟨w.heap.size + 1, 0, none⟩ = false →
      Calls Tryz.prog 97 #[.int .i64 k, .pointer (some ⟨w.heap.size + 1, 0, none⟩), .pointer (some ⟨w.heap.size, 0, none⟩), .pointer (some ⟨w.heap.size + 2, 0, none⟩)] w1 fun e w2 => e = .returned (.tuple #[]) ∧ OrdI w1 (w.heap.size + 1) (orderG ks f k) w2) := fun w1 hsz hb1 h1 h2 h3 h4 => by
    have hOB : ∀ w2, Off (fun k => k = w.heap.size + 1) w1 w2 → Below w.heap.size w w2 := fun w2 h2 => hb1.trans (h2.below hb1.size (fun k hk => by rw [hk]; omega))
    have h := walkc_any ks n K caps w1 (w.heap.size + 1) w.heap.size (w.heap.size + 2) (by omega) (by omega) (by omega) (by omega) (by omega) eg h1 h2 (fun p hp => by
      obtain ⟨ka, kc, r0, r1, r2⟩ := hrow p hp
      exact ⟨ka, kc, r0, fun w2 h2 => r1 w2 (hOB w2 h2), fun w2 h2 => r2 w2 (hOB w2 h2)⟩) f k [] w1 hk hD (by simpa using hlen) ⟨Off.refl _ _, _, h3, h4, World.ownsRow_nil _ _ _ _⟩
    simpa using h
  clear hrow hD
  generalize hl : orderG ks f k = l at *
  have HL : Hid _ := hl
  clear hl
  go_enter Tryz.func80, Tryz.ntmps80
  go_wp2_with fail
  refine (D2.out _ (by simp) ((((Below.refl _ _).alloc (Nat.le_refl _) _).alloc (by simp) _).alloc (by simp; omega) _) (by go_simp) (by go_simp) (by go_simp) (by go_simp)).mono ?_
  rintro e w2 ⟨rfl, hO, v, hc, hf, hown⟩
  obtain ⟨sa, cap, rfl, hia, hcap, hcm⟩ := ints_of_own hown
  have HIA : Hid _ := hia
  have HB : Below w.heap.size w w2 := ((((Below.refl _ _).alloc (Nat.le_refl _) _).alloc (by simp) _).alloc (by simp; omega) _).trans (hO.below (by simp; omega) (fun k hk => by rw [hk]; omega))
  clear hown hO hia
  go_wp2
  refine bodyPost_ret (v := .slice sa l.length cap) (by simp [results, Tryz.results80, go_sem]) rfl ⟨sa, cap, rfl, HB, HIA.out, hcap, hcm⟩

set_option maxHeartbeats 1000000 in
theorem order1_any (a : Option Addr) (c : Nat) (S : List Nd) (bs p : Nat) (ka : Option Addr) (kc : Nat) (L : Nat) (w1 : World) (hp : p < S.length) (hcs : w1.cell? ⟨bs, 0, none⟩ = some (.slice a S.length c))
    (hc : ∃ b o, a = some ⟨b, o, none⟩ ∧ w1.cell? ⟨b, o + p * 8 + 5, none⟩ = some (.slice ka L kc)) :
    Calls Tryz.prog 91 #[.int .i64 p, .pointer (some ⟨bs, 0, none⟩)] w1 fun e w2 => e = .returned (.slice ka L kc) ∧ Below w1.heap.size w1 w2 := by
  obtain ⟨b, o, rfl, hc5⟩ := hc
  have hp2 : (p : Int) < (S.length : Int) := by omega
  generalize S.length = n at *
  go_enter Tryz.func91, Tryz.ntmps91
  go_wp2
  go_ret
  exact ⟨rfl, Below.refl _ _⟩

set_option maxHeartbeats 1000000 in
theorem order_err (a : Option Addr) (c : Nat) (S : List Nd) (p u E : Int) (w : World) (hN : S.length ≤ 9223372036854775807) (hB : Big S) (hS : NdsAt w a S) (hE : tcheckE S [(p, u)] = E) (hE0 : E ≠ 0) :
    Calls Tryz.prog 75 #[.agg #[.slice a S.length c], .agg #[.int .i64 p, .int .i64 u]] w fun e w' => e = .returned (.tuple #[.slice none 0 0, .int .i64 E]) ∧ Below w.heap.size w w' := by
  have d1 := fun (W : World) (ha : Option Addr) (hW : NdsAt W a S) (hH : HandsAt W ha [(p, u)]) => tcheck_any a c S ha 1 [(p, u)] W hN hB hW (by simp) hH
  rw [hE] at d1
  have D1 : Hid _ := d1
  have HS : Hid (NdsAt w a S) := hS
  clear hS d1 hE hB
  have hz : (E == 0) = false := by simp [hE0]
  generalize S.length = n at *
  go_enter Tryz.func75, Tryz.ntmps75
  go_wp2_with (go_at_call 52; refine (D1.out _ _ (HS.out.below ((((Below.refl _ _).alloc (Nat.le_refl _) _).alloc (by simp) _).alloc (by simp; omega) _)) (hands_one _ _ _ _ (by go_simp) (by go_simp))).mono ?_; rintro e w1 ⟨rfl, hb1⟩)
  refine bodyPost_ret (v := .tuple #[.slice none 0 0, .int .i64 E]) (by simp [results, Tryz.results75, go_sem]) rfl ⟨rfl, ?_⟩
  exact ((((Below.refl _ _).alloc (Nat.le_refl _) _).alloc (by simp) _).alloc (by simp; omega) _).trans (hb1.mono (by simp; omega))

set_option maxHeartbeats 1000000 in
theorem order_ok (a : Option Addr) (c : Nat) (S : List Nd) (k f : Nat) (u : Int) (w : World) (hN : S.length ≤ 9223372036854775807) (hB : Big S) (hS : NdsAt w a S) (hE : tcheckE S [((k : Int), u)] = 0) (hk : k < S.length) (hD : Deep S f k) (hlen : (orderF S f k).length ≤ 1000000) :
    Calls Tryz.prog 75 #[.agg #[.slice a S.length c], .agg #[.int .i64 k, .int .i64 u]] w fun e w' => ∃ sa cap, e = .returned (.tuple #[.slice sa (orderF S f k).length cap, .int .i64 0]) ∧ Below w.heap.size w w' ∧ IntsAt w' sa (orderF S f k) ∧ (orderF S f k).length ≤ cap ∧ cap ≤ 9223372036854775807 := by
  have d1 := fun (W : World) (ha : Option Addr) (hW : NdsAt W a S) (hH : HandsAt W ha [((k : Int), u)]) => tcheck_any a c S ha 1 [((k : Int), u)] W hN hB hW (by simp) hH
  rw [hE] at d1
  have D1 : Hid _ := d1
  have HS : Hid (NdsAt w a S) := hS
  have D2 : Hid (∀ (w1 : World) (bs : Nat), w1.cell? ⟨bs, 0, none⟩ = some (.slice a S.length c) → Below w.heap.size w w1 →
      Calls Tryz.prog 80 #[.int .i64 k, .func (.func 91) #[] #[.pointer (some ⟨bs, 0, none⟩)]] w1 fun e w' => ∃ sa cap, e = .returned (.slice sa (orderF S f k).length cap) ∧ Below w1.heap.size w1 w' ∧ IntsAt w' sa (orderF S f k) ∧ (orderF S f k).length ≤ cap ∧ cap ≤ 9223372036854775807) := fun w1 bs h1 hb1 => by
    have hbs := World.block_lt_of_cell? _ _ h1
    have h := walk_any (fun p => (nd S p).ks) S.length 91 #[.pointer (some ⟨bs, 0, none⟩)] k f w1 (enters_of Tryz.func91 (by kernel_rfl) rfl) (fun p hp => by
      obtain ⟨b, o, ea, c0, c1, c2, c3, c4, ⟨ka, kc, c5, hks⟩, c6, c7⟩ := hS p hp
      have hks' : ∀ w2, Below w1.heap.size w1 w2 → Below w.heap.size w w2 := fun w2 h2 => hb1.trans (h2.mono hb1.size)
      exact ⟨ka, kc, hB p hp, fun w2 h2 => hks.below (hks' w2 h2), fun w2 h2 => order1_any a c S bs p ka kc _ w2 hp ((h2.cell (by exact hbs)).trans h1) ⟨b, o, ea, ((hks' w2 h2).cell (by exact World.block_lt_of_cell? _ _ c5)).trans c5⟩⟩) hk (deepG_of hD) (by rw [orderG_eq]; exact hlen)
    rw [orderG_eq] at h
    exact h
  clear hS d1 hE hB hD
  generalize S.length = n at *
  generalize hl : orderF S f k = l at *
  have HL : Hid _ := hl
  clear hl
  go_enter Tryz.func75, Tryz.ntmps75
  go_wp2_with (first
    | (go_at_call 52; refine (D1.out _ _ (HS.out.below ((((Below.refl _ _).alloc (Nat.le_refl _) _).alloc (by simp) _).alloc (by simp; omega) _)) (hands_one _ _ _ _ (by go_simp) (by go_simp))).mono ?_; rintro e w1 ⟨rfl, hb1⟩; simp only [World.size_alloc] at hb1; obtain ⟨l0, l1, l2⟩ := order_low hb1; have hs1 := hb1.size; simp only [World.size_alloc] at hs1; have hb0 : Below w.heap.size w w1 := ((((Below.refl _ _).alloc (Nat.le_refl _) _).alloc (by simp) _).alloc (by simp; omega) _).trans (hb1.mono (by omega)))
    | (go_at_call 80; refine (D2.out _ _ l0 hb0).mono ?_; rintro e w2 ⟨sa, cap, rfl, hb2, hia, hcap, hcm⟩; have HIA : Hid _ := hia; clear hia; have HB2 : Hid _ := hb2; clear hb2)
    | go_in)
  refine bodyPost_ret (v := .tuple #[.slice sa l.length cap, .int .i64 0]) (by simp [results, Tryz.results75, go_sem]) rfl ⟨sa, cap, rfl, hb0.trans (HB2.out.mono hb0.size), HIA.out, hcap, hcm⟩
end Go.Proofs.YtfaaijoneaompaaGreat

namespace Go.Proofs.YtfaaijoneaompaaGreat
open Go.RowKit

theorem infoK : (Tryz.prog.info? 3).map (fun i => (i.zero, i.size, i.bytes)) = some (some (.int .i64 0), 1, 8) := by kernel_rfl
theorem makeIntsK (n : Nat) (hn : n ≤ 1000000) (w : World) : (Instr.makeSlice 29 (.int .i64 (n : Int)) (.int .i64 (n : Int))).run Tryz.prog w = .ok (.slice (some ⟨w.heap.size, 0, none⟩) n n) (w.alloc (.cells (madeCells #[.int .i64 0] n) 3)) :=
  run_make_row' (P := Tryz.prog) 29 3 (.int .i64 0) 8 Tryz.underlying29 infoK rfl .i64 .i64 n (by omega) (by omega) w
theorem ints_row {w : World} {g t : Nat} {ks : List Int} (h : w.rowIs g t ks.length (fun j => .int .i64 (ks.getD j 0))) : IntsAt w (some ⟨g, 0, none⟩) ks := fun i hi => ⟨g, 0, rfl, by rw [Nat.zero_add]; exact h.cell hi⟩

set_option maxHeartbeats 1000000 in
theorem copyKids_any (ka : Option Addr) (kc : Nat) (ks : List Int) (w : World) (hk : ks.length ≤ 1000000) (hks : IntsAt w ka ks) :
    Calls Tryz.prog 62 #[.slice ka ks.length kc] w fun e w' => e = .returned (.slice (some ⟨w.heap.size, 0, none⟩) ks.length ks.length) ∧ Below w.heap.size w w' ∧ w'.rowIs w.heap.size 3 ks.length (fun j => .int .i64 (ks.getD j 0)) := by
  have hmk := makeIntsK ks.length hk
  have hsz : (Tryz.prog.info? 3).map (·.size) = some 1 := by kernel_rfl
  have HKS : Hid (∀ o1, IntsAt (w.alloc o1) ka ks) := fun o1 => hks.below (one_belowS _ _)
  have HG : Hid ((w.alloc (.cells (madeCells #[.int .i64 0] ks.length) 3)).heap[w.heap.size]? = some (.cells (madeCells #[.int .i64 0] ks.length).toList.toArray 3 (0, 0))) := by
    have := heap_alloc_new w (.cells (madeCells #[.int .i64 0] ks.length) 3)
    show _ = _
    simpa using this
  have HP : Hid (∀ o1, 0 < (ks.map (Value.int .i64)).length → some (⟨w.heap.size, 0, none⟩ : Addr) = some ⟨w.heap.size, 0, none⟩ ∧ ∃ ad, ka = some ad ∧ ∀ j v, (ks.map (Value.int .i64))[j]? = some v → (w.alloc o1).cell? (ad.add j) = some v) := fun o1 h0 => by
    refine ⟨rfl, ?_⟩
    obtain ⟨b, o, rfl, _⟩ := HKS.out o1 0 (by simpa using h0)
    refine ⟨_, rfl, fun j v hj => ?_⟩
    obtain ⟨hl, hv⟩ := List.getElem?_eq_some_iff.1 hj
    obtain ⟨b', o', e', hc⟩ := HKS.out o1 j (by simpa using hl)
    cases e'
    rw [List.getElem_map] at hv
    rw [getD_elem ks 0 (by simpa using hl), hv] at hc
    rw [Addr.add_lit]; exact hc
  have HSP : Hid (splice (madeCells #[.int .i64 0] ks.length).toList 0 (ks.map (Value.int .i64)) = ks.map (Value.int .i64)) := by
    show splice _ _ _ = _
    simp [splice, size_madeCells]
  clear hks
  go_enter Tryz.func62, Tryz.ntmps62
  go_wp2_with (refine wpList_copy_splice rfl (.tmp 7) (.tmp 8) 29 29 rfl 3 Tryz.underlying29 hsz (some ⟨w.heap.size, 0, none⟩) ka ks.length ks.length ks.length kc rfl rfl w.heap.size 0 (madeCells #[.int .i64 0] ks.length).toList 3 HG.out (ks.map (Value.int .i64)) (by simp) (HP.out _) (by simp [size_madeCells]) (by intro v hv; simp at hv; obtain ⟨y, _, rfl⟩ := hv; rfl) w.heap.size _ (Below.refl _ _) (Nat.le_refl _) ?_)
  intro w3 hw3 hb3
  have HW3 : Hid (w3.rowIs w.heap.size 3 ks.length (fun j => .int .i64 (ks.getD j 0))) := by
    refine ⟨_, hw3.out, ?_, fun i hi => ?_⟩
    · rw [HSP.out]; simp
    · rw [HSP.out]
      simp [hi]
  have HB3 : Hid (Below w.heap.size w w3) := (one_belowS _ _).trans hb3
  clear hb3 hw3
  go_wp2
  go_ret
  exact ⟨rfl, HB3.out, HW3.out⟩
end Go.Proofs.YtfaaijoneaompaaGreat

namespace Go.Proofs.YtfaaijoneaompaaGreat
open Go.RowKit

theorem makeIntsBig (n : Nat) (hn : n ≤ 1000000) (w : World) : (Instr.makeSlice 29 (.int .i64 (n : Int)) (.int .i64 (n : Int))).run Tryz.prog w = .ok (.slice (some ⟨w.heap.size, 0, none⟩) n n) (w.alloc (.cells (madeCells #[.int .i64 0] n) 3)) :=
  run_make_row' (P := Tryz.prog) 29 3 (.int .i64 0) 8 Tryz.underlying29 info3 rfl .i64 .i64 n (by omega) (by omega) w

theorem copy_low {w w1 : World} {u : Bool} {n t m p : Int} {k : Value} {h : Int} {c : Bool} (hb : Below (w.heap.size + 1 + 1) ((w.alloc (.cells #[.bool u, .int .i64 n, .int .i64 t, .int .i64 m, .int .i64 p, k, .int .i64 h, .bool c] 43)).alloc (.cells #[.bool false, .int .i64 0, .int .i64 0, .int .i64 0, .int .i64 0, .slice none 0 0, .int .i64 0, .bool false] 43)) w1) :
    (w1.cell? ⟨w.heap.size, 0, none⟩ = some (.bool u) ∧ w1.cell? ⟨w.heap.size, 1, none⟩ = some (.int .i64 n) ∧ w1.cell? ⟨w.heap.size, 2, none⟩ = some (.int .i64 t) ∧ w1.cell? ⟨w.heap.size, 3, none⟩ = some (.int .i64 m) ∧ w1.cell? ⟨w.heap.size, 4, none⟩ = some (.int .i64 p) ∧ w1.cell? ⟨w.heap.size, 5, none⟩ = some k ∧ w1.cell? ⟨w.heap.size, 6, none⟩ = some (.int .i64 h) ∧ w1.cell? ⟨w.heap.size, 7, none⟩ = some (.bool c)) ∧
    (w1.cell? ⟨w.heap.size + 1, 0, none⟩ = some (.bool false) ∧ w1.cell? ⟨w.heap.size + 1, 1, none⟩ = some (.int .i64 0) ∧ w1.cell? ⟨w.heap.size + 1, 2, none⟩ = some (.int .i64 0) ∧ w1.cell? ⟨w.heap.size + 1, 3, none⟩ = some (.int .i64 0) ∧ w1.cell? ⟨w.heap.size + 1, 4, none⟩ = some (.int .i64 0) ∧ w1.cell? ⟨w.heap.size + 1, 5, none⟩ = some (.slice none 0 0) ∧ w1.cell? ⟨w.heap.size + 1, 6, none⟩ = some (.int .i64 0) ∧ w1.cell? ⟨w.heap.size + 1, 7, none⟩ = some (.bool false)) ∧
    (∀ o, w1.frozen? ⟨w.heap.size, o, none⟩ = false) ∧ (∀ o, w1.frozen? ⟨w.heap.size + 1, o, none⟩ = false) := by
  refine ⟨⟨?_, ?_, ?_, ?_, ?_, ?_, ?_, ?_⟩, ⟨?_, ?_, ?_, ?_, ?_, ?_, ?_, ?_⟩, fun o => ?_, fun o => ?_⟩
  · exact (hb.cell (by simp; omega)).trans (by go_simp)
  · exact (hb.cell (by simp; omega)).trans (by go_simp)
  · exact (hb.cell (by simp; omega)).trans (by go_simp)
  · exact (hb.cell (by simp; omega)).trans (by go_simp)
  · exact (hb.cell (by simp; omega)).trans (by go_simp)
  · exact (hb.cell (by simp; omega)).trans (by go_simp)
  · exact (hb.cell (by simp; omega)).trans (by go_simp)
  · exact (hb.cell (by simp; omega)).trans (by go_simp)
  · exact (hb.cell (by simp)).trans (by go_simp)
  · exact (hb.cell (by simp)).trans (by go_simp)
  · exact (hb.cell (by simp)).trans (by go_simp)
  · exact (hb.cell (by simp)).trans (by go_simp)
  · exact (hb.cell (by simp)).trans (by go_simp)
  · exact (hb.cell (by simp)).trans (by go_simp)
  · exact (hb.cell (by simp)).trans (by go_simp)
  · exact (hb.cell (by simp)).trans (by go_simp)
  · exact (hb.frozen (by simp; omega)).trans (by go_simp)
  · exact (hb.frozen (by simp)).trans (by go_simp)

set_option maxHeartbeats 1000000 in
theorem copyNode_any (x : Nd) (ka : Option Addr) (kc : Nat) (w : World) (hk : x.ks.length ≤ 1000000) (hks : IntsAt w ka x.ks) :
    Calls Tryz.prog 61 #[.agg #[.bool x.u, .int .i64 x.n, .int .i64 x.t, .int .i64 x.m, .int .i64 x.p, .slice ka x.ks.length kc, .int .i64 x.h, .bool x.c]] w fun e w' => ∃ g, e = .returned (.agg #[.bool x.u, .int .i64 x.n, .int .i64 x.t, .int .i64 x.m, .int .i64 x.p, .slice (some ⟨g, 0, none⟩) x.ks.length x.ks.length, .int .i64 x.h, .bool x.c]) ∧ Below w.heap.size w w' ∧ w.heap.size ≤ g ∧ w'.rowIs g 3 x.ks.length (fun j => .int .i64 (x.ks.getD j 0)) := by
  obtain ⟨u, n, t, m, p, ks, h, c⟩ := x
  dsimp only at *
  have D : Hid (∀ o1 o2 : Obj, _) := fun o1 o2 => copyKids_any ka kc ks ((w.alloc o1).alloc o2) hk (hks.below (two_belowS _ _ _))
  clear hks
  obtain ⟨l, hl⟩ : ∃ l, ks.length = l := ⟨_, rfl⟩
  rw [hl] at D
  rw [hl]
  clear hl hk
  go_enter Tryz.func61, Tryz.ntmps61
  go_wp2_with fail
  refine Calls.mono (D.out _ _) ?_
  rintro e w3 ⟨rfl, hb3, hrow⟩
  simp only [World.size_alloc] at hb3 hrow
  obtain ⟨⟨l0, l1, l2, l3, l4, l5, l6, l7⟩, ⟨z0, z1, z2, z3, z4, z5, z6, z7⟩, f1, f2⟩ := copy_low hb3
  have hsz3 : w.heap.size + 1 + 1 < w3.heap.size := World.rowIs.lt hrow
  have HW3 : Hid (w3.rowIs (w.heap.size + 1 + 1) 3 l (fun j => .int .i64 (ks.getD j 0))) := hrow
  have HB3 : Hid (Below w.heap.size w w3) := (two_belowS _ _ _).trans (hb3.mono (by omega))
  clear hb3 hrow D
  simp only [World.size_alloc]
  go_wp2
  refine bodyPost_ret (v := .agg #[.bool u, .int .i64 n, .int .i64 t, .int .i64 m, .int .i64 p, .slice (some ⟨w.heap.size + 1 + 1, 0, none⟩) l l, .int .i64 h, .bool c]) (by simp [results, Tryz.results61, go_sem, z0, z1, z2, z3, z4, z5, z6, z7]) rfl ⟨w.heap.size + 1 + 1, rfl, ?_, by omega, ?_⟩
  · exact ((((((((HB3.out.setCell (by simp) _).setCell (by simp) _).setCell (by simp) _).setCell (by simp) _).setCell (by simp) _).setCell (by simp) _).setCell (by simp) _).setCell (by simp) _).setCell (by simp) _
  · exact ((((((((HW3.out.setOther (by simp; omega) _).setOther (by simp) _).setOther (by simp) _).setOther (by simp) _).setOther (by simp) _).setOther (by simp) _).setOther (by simp) _).setOther (by simp) _).setOther (by simp) _
end Go.Proofs.YtfaaijoneaompaaGreat
