/-
  travel: whatever the visitor does, it is asked at the spots in their order until it says no.
-/
import Derived.Test.YtplkfacaphejgaaUHmHhTo
namespace Go.Proofs.Ytplkfacaphejgaa
open Go.RowKit Go.Shelf
attribute [local go_sem] Oper.semAt_some
set_option linter.unusedVariables false

/-- The spots that are come by, up to one that stops it. -/
def visF (st : Spot → Bool) : List Spot → List Spot
  | [] => []
  | x :: t => x :: if st x then [] else visF st t
theorem vis_all {st : Spot → Bool} : ∀ {X : List Spot}, (∀ x ∈ X, st x = false) → visF st X = X
  | [], _ => rfl
  | x :: t, h => by
    rw [visF, h x (by simp), if_neg (by simp), vis_all (fun y hy => h y (List.mem_cons_of_mem _ hy))]
theorem vis_stop {st : Spot → Bool} {y : Spot} (hy : st y = true) (t : List Spot) : ∀ {X : List Spot}, (∀ x ∈ X, st x = false) → visF st (X ++ y :: t) = X ++ [y]
  | [], _ => by rw [List.nil_append, visF, hy, if_pos rfl]; rfl
  | x :: X, h => by
    rw [List.cons_append, visF, h x (by simp), if_neg (by simp), vis_stop hy t (fun z hz => h z (List.mem_cons_of_mem _ hz))]
    rfl

def tchd : Obj → Bool
  | .cells _ t _ => t == 28 || t == 36
  | _ => false
/-- All stays but the map hm, and rows and boxes of calls. -/
structure OffT (hm : Nat) (W W' : World) : Prop where
  size : W.heap.size ≤ W'.heap.size
  same : ∀ k o, k ≠ hm → W.heap[k]? = some o → tchd o = false → W'.heap[k]? = some o
theorem OffT.refl (hm : Nat) (W : World) : OffT hm W W := ⟨Nat.le_refl _, fun _ _ _ h _ => h⟩
theorem OffT.trans {hm : Nat} {A B C : World} (h : OffT hm A B) (k : OffT hm B C) : OffT hm A C := ⟨Nat.le_trans h.size k.size, fun i o hi ho ht => k.same i o hi (h.same i o hi ho ht) ht⟩
theorem OffT.of_below {hm : Nat} {A B : World} (h : Below A.heap.size A B) : OffT hm A B := ⟨h.size, fun k o _ ho _ => (h.block k (Array.getElem?_eq_some_iff.1 ho).1).trans ho⟩
theorem tchd_no {o : Obj} (h : o.isCells = false) : tchd o = false := by
  unfold tchd
  cases o <;> first | rfl | simp [Obj.isCells] at h
theorem OffT.keeps {hm B : Nat} {A C : World} (h : OffT hm A C) (hB : hm < B) : KeepsFrom B A C := ⟨h.size, fun k o hk ho hc => h.same k o (by omega) ho (tchd_no hc)⟩

theorem OwnFrom.monoB {β : Type} {B B' : Nat} {I : β → World → Prop} (h : OwnFrom B I) (hB : B ≤ B') : OwnFrom B' I := fun s W W' row hs hg hr => h s W W' row hs hg (fun r e => ⟨Nat.le_trans hB (hr r e).1, (hr r e).2⟩)

def dnS (pre : List (Nat × Int)) : List Spot := pre.map (fun x => (x.2, true))
theorem dnS_snoc (pre : List (Nat × Int)) (x : Nat × Int) : dnS (pre ++ [x]) = dnS pre ++ [(x.2, true)] := by simp [dnS]
theorem dnS_map {pre : List (Nat × Int)} {l : List Int} (h : pre.map Prod.snd = l) : dnS pre = l.map (fun p => (p, true)) := by
  subst h
  simp [dnS]
theorem last_prefix (zs : List Int) (m : Nat) : ∃ r, zs.reverse = lastF zs m ++ r := by
  refine ⟨(zs.take m).reverse, ?_⟩
  unfold lastF
  rw [← List.reverse_append, List.take_append_drop]

set_option maxRecDepth 100000 in
set_option maxHeartbeats 4000000 in
theorem travel_any (caps : Array Value) (st : Spot → Bool) (J : List Spot → World → Prop) (hm B0 : Nat) (W0 : World) (P : List Int) (b off pc : Nat) (hP : P.length ≤ 1000) (hI0 : IntsAt W0 (some ⟨b, off, none⟩) P) (hb : b < W0.heap.size)
    (hJ : OwnFrom B0 J) (hJB : ∀ X W, J X W → Below W0.heap.size W0 W) (hmB : hm < B0) (hbm : b ≠ hm)
    (hv : ∀ (X : List Spot) (x : Spot) (W : World), X.length < 2 * P.length → J X W → Calls Try.prog 14 (#[spotV x] ++ caps) W fun e W' => e = .returned (.bool (!st x)) ∧ OffT hm W W' ∧ J (X ++ [x]) W')
    (w : World) (hB0 : B0 ≤ w.heap.size) (h0 : J [] w) :
    Calls Try.prog 13 #[.slice (some ⟨b, off, none⟩) P.length pc, .func (.func 14) #[] caps] w fun e w' => (∃ v, e = .returned v) ∧ J (visF st (P.reverse.map (fun p => (p, true)) ++ P.map (fun p => (p, false)))) w' := by
  refine (callsIn_wide (n := 5)).1 ?_
  refine callsIn_of_wp_marks Try.func13 rfl trivial ?_ rfl
  simp only [Try.ntmps13, List.size_toArray, List.length_cons, List.length_nil, Nat.reduceAdd, Nat.reduceSub, Array.replicate_succ, Array.replicate_zero, List.push_toArray, List.append_toArray, List.nil_append, List.cons_append]
  gi_wp2_with (refine ⟨trivial, ?_⟩; gi_at_call 28; refine (back_in Fence.wide _ trivial rfl _ _ _ _).mono ?_; rintro e w' ⟨rfl, rfl⟩)
  obtain ⟨W1, hW1⟩ : ∃ W1, (w.alloc (.cells #[.func (.func 14) #[] caps] 52)).alloc (.cells #[.slice (some ⟨b, off, none⟩) P.length pc] 41) = W1 := ⟨_, rfl⟩
  rw [hW1]
  have hsz : W1.heap.size = w.heap.size + 1 + 1 := by rw [← hW1]; simp
  have hx0 : W1.heap[w.heap.size]? = some (.cells #[.func (.func 14) #[] caps] 52 (0, 0)) := by
    rw [← hW1]
    exact (Below.heap_alloc _ _ _ (by simp)).trans (heap_alloc_new w _)
  have hx1 : W1.heap[w.heap.size + 1]? = some (.cells #[.slice (some ⟨b, off, none⟩) P.length pc] 41 (0, 0)) := by
    rw [← hW1]
    have := heap_alloc_new (w.alloc (.cells #[.func (.func 14) #[] caps] 52)) (.cells #[.slice (some ⟨b, off, none⟩) P.length pc] 41)
    simpa using this
  have hj1 : J [] W1 := by
    rw [← hW1]
    exact hJ.alloc _ (hJ.alloc _ h0)
  have hbs : W1.cell? ⟨w.heap.size + 1, 0, none⟩ = some (.slice (some ⟨b, off, none⟩) P.length pc) := by simp [World.cell?, hx1]
  have hp1 : IntsAt W1 (some ⟨b, off, none⟩) P := hI0.below (hJB _ _ hj1)
  have hb1 : b < W1.heap.size := Nat.lt_of_lt_of_le hb (hJB _ _ hj1).size
  have hJ1 : OwnFrom W1.heap.size J := OwnFrom.monoB hJ (by omega)
  -- what a visit leaves of the two boxes and of the path
  have KEEP : ∀ (W W' : World) (X Y : List Spot), J X W → J Y W' → OffT hm W W' → ∀ k o, w.heap.size ≤ k → W.heap[k]? = some o → tchd o = false → W'.heap[k]? = some o := fun W W' X Y _ _ ho k o hk h1 h2 => ho.same k o (by omega) h1 h2
  refine wpIn_rangeFunc_ownG rfl (by omega) (gf := 52) (lb := #[.pointer (some ⟨w.heap.size + 1, 0, none⟩)]) rfl trivial (enters_of Try.func52 (by kernel_rfl) rfl)
    (back_stops Fence.wide _ trivial rfl (by omega) (w.heap.size + 1) b off pc P (by omega) W1 hbs hp1)
    (fun h k => ⟨k.1.trans h.1, k.2.trans h.2⟩)
    (fun W l o o' hl h1 h2 h3 => ⟨World.putObj_heap_other (by omega), World.putObj_heap_other (by omega)⟩)
    (Below.refl _ _) (fun _ => rfl)
    (fun pre W => (J (dnS pre) W ∧ ∀ y ∈ dnS pre, st y = false) ∧ W.heap[w.heap.size]? = some (.cells #[.func (.func 14) #[] caps] 52 (0, 0)) ∧ W.heap[w.heap.size + 1]? = some (.cells #[.slice (some ⟨b, off, none⟩) P.length pc] 41 (0, 0)))
    (fun c pre W => c = .ret ∧ J (dnS pre) W ∧ ∃ X0 y, dnS pre = X0 ++ [y] ∧ (∀ z ∈ X0, st z = false) ∧ st y = true)
    ?own ?ownx ⟨⟨hj1, fun y hy => by simp [dnS] at hy⟩, hx0, hx1⟩
    (fun x => { tmps := #[.slice (some ⟨b, off, none⟩) P.length pc, .func (.func 14) #[] caps, undef, .pointer (some ⟨w.heap.size, 0, none⟩), undef, .int .i64 x.2, undef, undef, .slice (some ⟨b, off, none⟩) P.length pc, .func (.func 52) #[] #[.pointer (some ⟨w.heap.size + 1, 0, none⟩)], .int .i64 (x.1 : Int), .int .i64 x.2, undef, undef, undef, undef, undef, undef, undef, undef, undef, undef, undef, undef, undef, undef, undef, undef, undef], defers := [] }) ?assign ?body ?done ?stop
  case own =>
    intro s A B row hs hg hr
    have hne : ∀ k, k < W1.heap.size → k < A.heap.size → B.heap[k]? = A.heap[k]? := fun k hk hk2 => hg.block k hk2 (fun e => by have := (hr k e.symm).1; omega)
    have hA0 := (Array.getElem?_eq_some_iff.1 hs.2.1).1
    have hA1 := (Array.getElem?_eq_some_iff.1 hs.2.2).1
    exact ⟨⟨hJ1 _ A B row hs.1.1 hg hr, hs.1.2⟩, (hne _ (by omega) hA0).trans hs.2.1, (hne _ (by omega) hA1).trans hs.2.2⟩
  case ownx =>
    intro c s A B row hs hg hr
    exact ⟨hs.1, hJ1 _ A B row hs.2.1 hg hr, hs.2.2⟩
  case assign =>
    intro l x W K hK
    gi_wp2
    exact hK
  case body =>
    rintro l pre x W ⟨⟨hj, hns⟩, hbx, hby⟩ hpre
    have hcx : W.cell? ⟨w.heap.size, 0, none⟩ = some (.func (.func 14) #[] caps) := by simp [World.cell?, hbx]
    have D := hv (dnS pre) (x.2, true) W (by unfold dnS; rw [List.length_map]; omega) hj
    unfold spotV at D
    dsimp only at D
    cases hs : st (x.2, true) with
    | false =>
      rw [hs] at D
      gi_wp2_with (refine ⟨trivial, ?_⟩; gi_at_call 14; refine (CallsIn.inRound l (callsIn_wide.2 D)).mono ?_; rintro e W' ⟨rfl, hoff, hj'⟩)
      exact ⟨hoff.keeps (by omega), ⟨(hoff.same _ _ (by omega) hby rfl).trans hby.symm, ((hJB _ _ hj').block b hb).trans ((hJB _ _ hj).block b hb).symm⟩, ⟨by rw [dnS_snoc]; exact hj', fun y hy => by rw [dnS_snoc, List.mem_append] at hy; rcases hy with hy | hy; exact hns y hy; rw [List.mem_singleton.1 hy]; exact hs⟩, hoff.same _ _ (by omega) hbx rfl, hoff.same _ _ (by omega) hby rfl⟩
    | true =>
      rw [hs] at D
      gi_wp2_with (refine ⟨trivial, ?_⟩; gi_at_call 14; refine (CallsIn.inRound l (callsIn_wide.2 D)).mono ?_; rintro e W' ⟨rfl, hoff, hj'⟩)
      exact ⟨hoff.keeps (by omega), rfl, by rw [dnS_snoc]; exact hj', dnS pre, (x.2, true), dnS_snoc _ _, hns, hs⟩
  case done =>
    rintro D ys W hD hS ⟨⟨hj, hns⟩, hbx, hby⟩ hK
    have hdn : dnS ys = P.reverse.map (fun p => (p, true)) := dnS_map hS
    rw [hdn] at hj hns
    clear hdn hS hby
    obtain ⟨len, hlen⟩ : ∃ n, P.length = n := ⟨_, rfl⟩
    have HLEN : Hid (P.length = len) := hlen
    rw [hlen] at hP ⊢
    have HDN : Hid ((P.reverse.map (fun p => (p, true))).length = len) := (by rw [List.length_map, List.length_reverse]; exact hlen : (P.reverse.map (fun p => (p, true))).length = len)
    generalize hdd : P.reverse.map (fun p => (p, true)) = DN at *
    gi_wp2
    gi_loopw [19] (fun i wr => ∃ m : Nat, m ≤ len ∧ i = .int .i64 m ∧ J (DN ++ (P.take m).map (fun p => (p, false))) wr ∧ (∀ y ∈ (P.take m).map (fun p => (p, false)), st y = false) ∧ wr.heap[w.heap.size]? = some (.cells #[.func (.func 14) #[] caps] 52 (0, 0)) ∧ wr.heap[D]? = some (.deferred (some [])))
      (fun i _ => len - (intOf i).toNat)
    case atStart => exact ⟨0, Nat.zero_le _, rfl, by simpa using hj, fun y hy => by simp at hy, hbx, hK⟩
    case round =>
      obtain ⟨m, hm2, rfl, hjm, hnm, hbm2, hKm⟩ := hrel
      have hcx : wr.cell? ⟨w.heap.size, 0, none⟩ = some (.func (.func 14) #[] caps) := by simp [World.cell?, hbm2]
      by_cases hlt : m < len
      · obtain ⟨b', o', e, hc⟩ := (hI0.below (hJB _ _ hjm)) m (by omega)
        cases e
        have hP1 : P.take (m + 1) = P.take m ++ [P.getD m 0] := by
          rw [List.take_succ_eq_append_getElem (by omega), getD_elem _ _ (by omega)]
        have hP2 : P = P.take m ++ P.getD m 0 :: P.drop (m + 1) := by
          rw [getD_elem _ _ (by omega), ← List.drop_eq_getElem_cons (by omega), List.take_append_drop]
        generalize P.getD m 0 = y at *
        have D2 := hv _ (y, false) wr (by rw [List.length_append, HDN.out, List.length_map, List.length_take]; omega) hjm
        unfold spotV at D2
        dsimp only at D2
        have hlt2 : (m : Int) < (len : Int) := by omega
        cases hs : st (y, false) with
        | false =>
          rw [hs] at D2
          gi_wp2_with (refine ⟨trivial, ?_⟩; gi_at_call 14; refine (callsIn_wide.2 D2).mono ?_; rintro e W' ⟨rfl, hoff, hj'⟩)
          go_roundw
          case rel => exact ⟨m + 1, by omega, by simp, by rw [hP1, List.map_append, ← List.append_assoc]; exact hj', fun z hz => by rw [hP1, List.map_append, List.mem_append] at hz; rcases hz with hz | hz; exact hnm z hz; rw [List.mem_singleton.1 hz]; exact hs, hoff.same _ _ (by omega) hbm2 rfl, hoff.same _ _ (by omega) hKm rfl⟩
          case measure => simp [intOf]; omega
        | true =>
          rw [hs] at D2
          gi_wp2_with (refine ⟨trivial, ?_⟩; gi_at_call 14; refine (callsIn_wide.2 D2).mono ?_; rintro e W' ⟨rfl, hoff, hj'⟩)
          refine ⟨by simp, .inl ⟨_, _, rfl, run_takeDeferred (hoff.same _ _ (by omega) hKm rfl), ?_⟩⟩
          refine ⟨_, results_none rfl _ _ _, ⟨_, rfl⟩, ?_⟩
          have e : visF st (DN ++ P.map (fun p => (p, false))) = DN ++ (P.take m).map (fun p => (p, false)) ++ [(y, false)] := by
            conv => lhs; rw [hP2]
            rw [List.map_append, List.map_cons, ← List.append_assoc]
            exact vis_stop hs _ (fun z hz => by rcases List.mem_append.1 hz with hz | hz; exact hns z hz; exact hnm z hz)
          rw [hdd, e]
          exact hJ1.putObj _ hj' hD (hoff.same _ _ (by omega) hKm rfl) rfl
      · have hme : m = len := by omega
        subst hme
        gi_wp2
        refine ⟨by simp, .inl ⟨_, _, rfl, run_takeDeferred hKm, ?_⟩⟩
        refine ⟨_, results_none rfl _ _ _, ⟨_, rfl⟩, ?_⟩
        have e2 : P.take m = P := by rw [← HLEN.out]; exact List.take_length
        rw [e2] at hjm hnm
        rw [hdd, vis_all (fun z hz => by rcases List.mem_append.1 hz with hz | hz; exact hns z hz; exact hnm z hz)]
        exact hJ1.putObj _ hjm hD hKm rfl
  case stop =>
    rintro D c pre W hD ⟨m, hm2, hpm⟩ ⟨rfl, hj, X0, y, e1, h2, h3⟩ hK
    obtain ⟨r, hr⟩ := last_prefix P m
    have e : visF st (P.reverse.map (fun p => (p, true)) ++ P.map (fun p => (p, false))) = dnS pre := by
      rw [hr, List.map_append, ← dnS_map hpm, e1, List.append_assoc, List.append_assoc]
      exact vis_stop h3 _ h2
    gi_wp2
    refine ⟨by simp, .inl ⟨_, _, rfl, run_takeDeferred hK, ?_⟩⟩
    refine ⟨_, results_none rfl _ _ _, ⟨_, rfl⟩, ?_⟩
    rw [e]
    exact hJ1.putObj _ hj hD hK rfl
end Go.Proofs.Ytplkfacaphejgaa
