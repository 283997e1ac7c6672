/-
  The reference's FlatOf.
-/
import Derived.Test.YtlgnapdhnlhkpaaULw
import Derived.Deep.DeepCutAuto
namespace Go.Proofs.Ytlgnapdhnlhkpaa
open Go.RowKit
set_option linter.unusedVariables false

/-- The closure, from any node on. -/
theorem flat_walk (a : Option Addr) (c : Nat) (S : List Nd) (W : World) (bo bs bw bg mb cnt : Nat) (gf : Int → Bool) (wf : WF S) (hC : RChk a c S) (hbo : bo < W.heap.size) (hbs : bs ≠ bo) (hbw : bw ≠ bo) (hbg : bg ≠ bo) (hmb : mb ≠ bo)
    (hnd : ∀ w1, Off (fun k => k = bo) W w1 → NdsAt w1 a S) (cs : W.cell? ⟨bs, 0, none⟩ = some (.slice a S.length c)) (cw : W.cell? ⟨bw, 0, none⟩ = some (.func (.func 28) #[] #[.pointer (some ⟨bo, 0, none⟩), .pointer (some ⟨bs, 0, none⟩), .pointer (some ⟨bw, 0, none⟩), .pointer (some ⟨bg, 0, none⟩)])) (cg : W.cell? ⟨bg, 0, none⟩ = some (.map (some mb))) (mk : MarksAt W mb cnt gf)
    (hab : ∀ b o, a = some ⟨b, o, none⟩ → b ≠ bo) (hgf : ∀ k : Nat, gf k = decide (givT S S.length k ≠ [])) :
    ∀ (f p : Nat) (l : List Int) (w1 : World), p < S.length → DeepG (showF S (givT S S.length)) S.length f p → l.length + (orderG (showF S (givT S S.length)) f p).length ≤ 1000000 → OrdI W bo l w1 →
    Calls Try.prog 28 #[.int .i64 (p : Int), .pointer (some ⟨bo, 0, none⟩), .pointer (some ⟨bs, 0, none⟩), .pointer (some ⟨bw, 0, none⟩), .pointer (some ⟨bg, 0, none⟩)] w1 fun e w2 => e = .returned (.tuple #[]) ∧ OrdI W bo (l ++ orderG (showF S (givT S S.length)) f p) w2 := by
  have step : ∀ (p : Nat) (sub : Int → List Int) (l : List Int) (w1 : World), p < S.length → (∀ k ∈ showF S (givT S S.length) p, ∀ l w1, l.length + (sub k).length ≤ 1000000 → OrdI W bo l w1 → Calls Try.prog 28 #[.int .i64 k, .pointer (some ⟨bo, 0, none⟩), .pointer (some ⟨bs, 0, none⟩), .pointer (some ⟨bw, 0, none⟩), .pointer (some ⟨bg, 0, none⟩)] w1 fun e w2 => e = .returned (.tuple #[]) ∧ OrdI W bo (l ++ sub k) w2) →
      l.length + 1 + ((showF S (givT S S.length) p).flatMap sub).length ≤ 1000000 → OrdI W bo l w1 → Calls Try.prog 28 #[.int .i64 (p : Int), .pointer (some ⟨bo, 0, none⟩), .pointer (some ⟨bs, 0, none⟩), .pointer (some ⟨bw, 0, none⟩), .pointer (some ⟨bg, 0, none⟩)] w1 fun e w2 => e = .returned (.tuple #[]) ∧ OrdI W bo (l ++ (p : Int) :: (showF S (givT S S.length) p).flatMap sub) w2 := by
    intro p sub l w1 hp hsub hlen hI
    by_cases hr : rootE S p = -1
    · by_cases hg : givT S S.length p = []
      · have e : showF S (givT S S.length) p = (nd S p).ks := by unfold showF; rw [if_neg (by simp [hr]), if_neg (by simp [hg])]
        rw [e] at hsub hlen ⊢
        exact flat_way3 a c S W bo bs bw bg mb cnt gf wf hC hbo hbs hbw hbg hmb hnd cs cw cg mk p hp sub hab hr (by rw [hgf p, hg]; simp) hsub l w1 hlen hI
      · obtain ⟨r, H, rest, h1, h2, h3, h4, h5⟩ := giv_asked wf hg
        have e : showF S (givT S S.length) p = (nd S H).ks.filter (fun c => decide (toF S c.toNat = (p : Int))) := by unfold showF; rw [if_neg (by simp [hr]), if_pos hg]; exact h5
        rw [e] at hsub hlen ⊢
        exact flat_way2 a c S W bo bs bw bg mb cnt gf wf hC hbo hbs hbw hbg hmb hnd cs cw cg mk p hp sub hab hr (by rw [hgf p]; simp [hg]) r H rest h1 h2 h3 h4 hsub l w1 hlen hI
    · obtain ⟨r, h1, h2, _⟩ := rootE_cases S p hr
      have e : showF S (givT S S.length) p = (nd S r).ks := by unfold showF; rw [if_pos hr, h2, Int.toNat_natCast]
      rw [e] at hsub hlen ⊢
      exact flat_way1 a c S W bo bs bw bg mb cnt gf wf hC hbo hbs hbw hbg hmb hnd cs cw cg mk p hp sub hab r h1 h2 hsub l w1 hlen hI
  intro f
  induction f with
  | zero =>
    intro p l w1 hp hD hlen hI
    have hk : showF S (givT S S.length) p = [] := hD
    have h := step p (fun _ => []) l w1 hp (fun k hk' => by rw [hk] at hk'; cases hk') (by simp only [orderG] at hlen; rw [hk]; simpa using hlen) hI
    rw [hk] at h
    exact h
  | succ f ih =>
    intro p l w1 hp hD hlen hI
    exact step p (fun k => orderG (showF S (givT S S.length)) f k.toNat) l w1 hp (fun k hk l w1 hl hI1 => by
      obtain ⟨⟨h1, h2⟩, h3⟩ := hD k hk
      have := ih k.toNat l w1 (by omega) h3 hl hI1
      rwa [Int.toNat_of_nonneg h1] at this) (by simp only [orderG, List.length_cons] at hlen; omega) hI
end Go.Proofs.Ytlgnapdhnlhkpaa

namespace Go.Proofs.Ytlgnapdhnlhkpaa
open Go.RowKit
set_option linter.unusedVariables false

set_option maxHeartbeats 2000000 in
theorem rFlat_err (a : Option Addr) (c : Nat) (S : List Nd) (p u E : Int) (w : World) (hN : S.length ≤ 9223372036854775807) (hC : RChk a c S) (hS : NdsAt w a S) (hE : tcheckE S [(p, u)] = E) (hE0 : E ≠ 0) :
    Calls Try.prog 9 #[.agg #[.slice a S.length c], .agg #[.int .i64 p, .int .i64 u]] w fun e w' => e = .returned (.tuple #[.slice none 0 0, .int .i64 E]) ∧ Below w.heap.size w w' := by
  have df := fun (W : World) (ha : Option Addr) (hW : NdsAt W a S) (hH : HandsAt W ha [(p, u)]) => rFirst_any a c S ha 1 [(p, u)] W hN hC hW (by simp) hH
  rw [hE] at df
  have DF : Hid _ := df
  have HS : Hid (NdsAt w a S) := hS
  have hz : (E == 0) = false := by simp [hE0]
  have hz2 : decide (E = 0) = false := decide_eq_false hE0
  clear hS hC df hE
  generalize S.length = n at *
  go_enter Try.func9, Try.ntmps9
  go_wp2_with fail
  refine Calls.mono (DF.out _ _ (HS.out.below (three_below _ _ _ _)) (hands_one _ _ _ _ (by go_simp) (by go_simp))) ?_
  rintro e w1 ⟨rfl, hb1⟩
  simp only [World.size_alloc] at hb1
  obtain ⟨l0, l1, hsz, hB1⟩ := ord2_low hb1
  go_wp2_with fail
  refine bodyPost_ret (v := .tuple #[.slice none 0 0, .int .i64 E]) (by simp [results, Try.results9, go_sem]) rfl ⟨rfl, hB1⟩

/-- What the map says behind i nodes: some used node among them is given there. -/
def givenB (S : List Nd) (i : Nat) (x : Int) : Bool := (List.range i).any fun j => (nd S j).u && decide (toF S j = x)

theorem givenB_used {S : List Nd} {i : Nat} (hu : (nd S i).u = true) (x : Int) : (if x = toF S i then true else givenB S i x) = givenB S (i + 1) x := by
  unfold givenB
  rw [List.range_succ, List.any_append]
  by_cases e : x = toF S i
  · simp [e, hu]
  · have : ¬ toF S i = x := fun h => e h.symm
    simp [e, this]
theorem givenB_not {S : List Nd} {i : Nat} (hu : (nd S i).u = false) (x : Int) : givenB S i x = givenB S (i + 1) x := by
  unfold givenB
  rw [List.range_succ, List.any_append]
  simp [hu]
theorem givenB_all {S : List Nd} (h : WF S) (k : Nat) : givenB S S.length (k : Int) = decide (givT S S.length k ≠ []) := by
  rw [Bool.eq_iff_iff, decide_eq_true_iff, giv_some h]
  unfold givenB
  rw [List.any_eq_true]
  constructor
  · rintro ⟨j, hj, h2⟩
    simp at h2
    exact ⟨j, List.mem_range.1 hj, h2.1, h2.2⟩
  · rintro ⟨n, hn, h2, h3⟩
    exact ⟨n, List.mem_range.2 hn, by simp [h2, h3]⟩

theorem toF_range {S : List Nd} (h : WF S) {k : Nat} (hk : k < S.length) : -1 ≤ toF S k ∧ toF S k < S.length := by
  unfold toF toL
  cases hf : (slotsP S k).find? (fun s => decide ((k : Int) ∈ s.gv)) with
  | none => simp; omega
  | some s =>
    have h1 := List.mem_of_find?_eq_some hf
    unfold slotsP at h1
    split at h1
    · cases h1
    · obtain ⟨_, q, _, _, _, _, e, hq, _⟩ := slotsF_mem h h1
      show -1 ≤ s.pl ∧ s.pl < _
      omega

set_option maxRecDepth 100000 in
set_option maxHeartbeats 8000000 in
theorem rFlat_ok (a : Option Addr) (c : Nat) (S : List Nd) (k : Nat) (u : Int) (w : World) (wf : WF S) (hC : RChk a c S) (hS : NdsAt w a S) (hk : k < S.length) (hE : tcheckE S [((k : Int), u)] = 0) :
    Calls Try.prog 9 #[.agg #[.slice a S.length c], .agg #[.int .i64 (k : Int), .int .i64 u]] w fun e w' => ∃ v, e = .returned (.tuple #[v, .int .i64 0]) ∧ Below w.heap.size w w' ∧ w'.ownsRow w.heap.size 3 1 v (flatF S k).length ((flatF S k).map (Value.int .i64)) := by
  have hN := wf.small
  have df := fun (W : World) (ha : Option Addr) (hW : NdsAt W a S) (hH : HandsAt W ha [((k : Int), u)]) => rFirst_any a c S ha 1 [((k : Int), u)] W (by omega) hC hW (by simp) hH
  rw [hE] at df
  have DF : Hid _ := df
  have HS : Hid (NdsAt w a S) := hS
  have TO : Hid (∀ (y : Nat), y < S.length → ∀ w1, NdsAt w1 a S → Calls _ _ _ _ _) := fun y hy w1 h1 => rTo_any a c S y w1 wf hC hy h1
  have TR : Hid (∀ y, y < S.length → -1 ≤ toF S y ∧ toF S y < S.length) := fun y hy => toF_range wf hy
  have GU : Hid (∀ i, (nd S i).u = true → ∀ x, (if x = toF S i then true else givenB S i x) = givenB S (i + 1) x) := fun i h x => givenB_used h x
  have GN : Hid (∀ i, (nd S i).u = false → ∀ x, givenB S i x = givenB S (i + 1) x) := fun i h x => givenB_not h x
  have FLW : Hid (∀ (W : World) (bo bs bw bg mb cnt : Nat), bo < W.heap.size → bs ≠ bo → bw ≠ bo → bg ≠ bo → mb ≠ bo → (∀ w1, Off (fun k => k = bo) W w1 → NdsAt w1 a S) → W.cell? ⟨bs, 0, none⟩ = some (.slice a S.length c) → W.cell? ⟨bw, 0, none⟩ = some (.func (.func 28) #[] #[.pointer (some ⟨bo, 0, none⟩), .pointer (some ⟨bs, 0, none⟩), .pointer (some ⟨bw, 0, none⟩), .pointer (some ⟨bg, 0, none⟩)]) → W.cell? ⟨bg, 0, none⟩ = some (.map (some mb)) → MarksAt W mb cnt (givenB S S.length) → (∀ b o, a = some ⟨b, o, none⟩ → b ≠ bo) → ∀ w1, OrdI W bo [] w1 →
      Calls Try.prog 28 #[.int .i64 (k : Int), .pointer (some ⟨bo, 0, none⟩), .pointer (some ⟨bs, 0, none⟩), .pointer (some ⟨bw, 0, none⟩), .pointer (some ⟨bg, 0, none⟩)] w1 fun e w2 => e = .returned (.tuple #[]) ∧ OrdI W bo (flatF S k) w2) := fun W bo bs bw bg mb cnt h1 h2 h3 h4 h5 h6 h7 h8 h9 h10 h11 w1 hI =>
    flat_walk a c S W bo bs bw bg mb cnt (givenB S S.length) wf hC h1 h2 h3 h4 h5 h6 h7 h8 h9 h10 h11 (fun j => givenB_all wf j) (farF S) k [] w1 hk (deep_show_all wf (giv_ok wf) hk) (by have := flatF_le wf hk; unfold flatF at this; simp; omega) hI
  have eg := enters_of Try.func28 (by kernel_rfl) rfl
  have hmm := @run_makeMap Try.prog
  clear hS hC df hE wf
  generalize flatF S k = RES at *
  obtain ⟨n, hn⟩ : ∃ n, S.length = n := ⟨_, rfl⟩
  have HN : Hid (S.length = n) := hn
  rw [hn] at hN hk DF TO TR FLW ⊢
  clear hn
  go_enter Try.func9, Try.ntmps9
  go_wp2_with fail
  refine Calls.mono (DF.out _ _ (HS.out.below (three_below _ _ _ _)) (hands_one _ _ _ _ (by go_simp) (by go_simp))) ?_
  rintro e w1 ⟨rfl, hb1⟩
  simp only [World.size_alloc] at hb1
  obtain ⟨l0, l1, hsz, hB1⟩ := ord2_low hb1
  have HB1 : Hid _ := hB1
  have q0 : w.heap.size < w1.heap.size := by omega
  have q1 : w.heap.size + 1 < w1.heap.size := by omega
  clear hb1 hB1 DF
  have MK0 : Hid (MarksAt ((w1.alloc (.map #[] 0)).alloc (.cells #[.map (some w1.heap.size)] 48)) w1.heap.size 0 (givenB S 0)) := ((MarksAt.made w1).kept (Below.heap_alloc _ _ _ (by simp))).congr (fun x => rfl)
  have G0 : Hid (((w1.alloc (.map #[] 0)).alloc (.cells #[.map (some w1.heap.size)] 48)).heap[w1.heap.size + 1]? = some (.cells #[.map (some w1.heap.size)] 48 (0, 0))) := by
    have := heap_alloc_new (w1.alloc (.map #[] 0)) (.cells #[.map (some w1.heap.size)] 48)
    rw [World.size_alloc] at this
    exact this
  go_wp2_with fail
  go_loopg [23] n (fun g s wr => ∃ i : Nat, i ≤ n ∧ n - i ≤ g ∧ s = .int .i64 i ∧ w1.heap.size + 2 ≤ wr.heap.size ∧ Hid (Below w1.heap.size w1 wr) ∧ wr.heap[w1.heap.size + 1]? = some (.cells #[.map (some w1.heap.size)] 48 (0, 0)) ∧ Hid (MarksAt wr w1.heap.size i (givenB S i)))
  case atStart => exact ⟨0, by omega, by omega, rfl, by simp, two_belowS _ _ _, G0.out, MK0⟩
  case round =>
    obtain ⟨i, hi, hg, rfl, hsz5, HB5, bG, MK⟩ := hrel
    clear MK0 G0
    have m0 := keepC l0 HB5.out
    have m1 := keepC l1 HB5.out
    have cG := box_cell bG
    have z0 := World.block_lt_of_cell? _ _ m0
    have z1 := World.block_lt_of_cell? _ _ m1
    have zG := World.block_lt_of_cell? _ _ cG
    have HBW : Hid (Below w.heap.size w wr) := HB1.out.trans (HB5.out.mono HB1.out.size)
    by_cases hlt : i < n
    · have hlt2 : (i : Int) < (n : Int) := by omega
      obtain ⟨nb, no, ea, c0, c1, c2, c3, c4, ⟨ka, kc, c5, _⟩, c6, c7⟩ := (HS.out.below HBW.out) i (by rw [HN.out]; exact hlt)
      subst ea
      have TOi : Hid _ := TO.out i hlt
      have TRi := TR.out i hlt
      have GUi : Hid _ := GU.out i
      have GNi : Hid _ := GN.out i
      generalize nd S i = x at *
      obtain ⟨xu, xn, xt, xm, xp, xks, xh, xc⟩ := x
      dsimp only at c0 c1 c2 c3 c4 c5 c6 c7 GUi GNi
      generalize xks.length = xl at *
      obtain ⟨tt, htt⟩ : ∃ z, toF S i = z := ⟨_, rfl⟩
      rw [htt] at TOi TRi GUi
      clear htt
      cases xu with
      | false =>
        have MKx : Hid (∀ o1, MarksAt (wr.alloc o1) w1.heap.size (i + 1) (givenB S (i + 1))) := fun o1 => ((MK.out.kept ((one_belowS wr o1).block _ MK.out.lt)).mono (by omega)).congr (GNi.out rfl)
        have BGx : Hid (∀ o1, (wr.alloc o1).heap[w1.heap.size + 1]? = some (.cells #[.map (some w1.heap.size)] 48 (0, 0))) := fun o1 => ((one_belowS wr o1).block _ zG).trans bG
        go_wp2_with fail
        go_roundg (n - (i + 1))
        case measure => omega
        case rel => exact ⟨i + 1, by omega, by omega, by go_num, by simp; omega, HB5.out.trans ((one_belowS _ _).mono (by omega)), BGx.out _, MKx.out _⟩
      | true =>
        have hwf : (Lit.int .i64 tt).wf = true := by
          unfold Lit.wf
          simp [IntKind.min, IntKind.max, IntKind.signed, IntKind.bits]
          omega
        have ne1 := World.new_ne wr _ m0
        have ne2 := World.new_ne wr _ cG
        have HBA : Hid (∀ o1, Below w.heap.size w (wr.alloc o1).drew) := fun o1 => (HBW.out.trans ((one_belowS _ _).mono HBW.out.size)).drew
        have CALLD : Hid (∀ o1 w6, Below (wr.alloc o1).drew.heap.size (wr.alloc o1).drew w6 → ∃ w7, (Instr.mapUpdate 48 (.map (some w1.heap.size)) (.int .i64 tt) (.bool true)).run Try.prog w6 = .ok () w7 ∧ Hid (MarksAt w7 w1.heap.size (i + 1) (givenB S (i + 1))) ∧ w6.cell? ⟨w.heap.size, 0, none⟩ = some (.slice (some ⟨nb, no, none⟩) n c) ∧ w6.cell? ⟨w1.heap.size + 1, 0, none⟩ = some (.map (some w1.heap.size)) ∧ w7.cell? ⟨w.heap.size, 0, none⟩ = some (.slice (some ⟨nb, no, none⟩) n c) ∧ w7.cell? ⟨w1.heap.size + 1, 0, none⟩ = some (.map (some w1.heap.size)) ∧ Hid (w7.heap[w1.heap.size + 1]? = some (.cells #[.map (some w1.heap.size)] 48 (0, 0))) ∧ Hid (Below w1.heap.size w1 w7) ∧ w1.heap.size + 2 ≤ w7.heap.size) := fun o1 w6 hb => by
          have hb0 : Below wr.heap.size wr w6 := ((one_belowS wr o1).drew).trans (hb.mono (by show wr.heap.size ≤ (wr.alloc o1).heap.size; simp))
          have hs6 := hb0.size
          obtain ⟨w7, hput, mk7, gr7⟩ := (MK.out.kept (hb0.block _ MK.out.lt)).put (t := 48) Try.underlying48 (by unfold maxLen; omega) (k := tt) hwf true
          have hs7 := gr7.size
          have b6 := (hb0.block _ zG).trans bG
          have b7 := (gr7.block (w1.heap.size + 1) (by omega) (by intro e; have := Option.some.inj e; omega)).trans b6
          exact ⟨w7, hput, mk7.congr (GUi.out rfl), keepC m0 hb0, box_cell b6, gr7.cell (a := ⟨w.heap.size, 0, none⟩) (keepC m0 hb0) (by intro e; have : w.heap.size = w1.heap.size := Option.some.inj e; omega), box_cell b7, b7, (HB5.out.trans (hb0.mono (by omega))).grown gr7 (by omega) (fun k hk => by cases hk; exact Nat.le_refl _), by omega⟩
        go_wp2_with fail
        go_region_held3 (fun w'' => w''.cell? ⟨w.heap.size, 0, none⟩ = some (.slice (some ⟨nb, no, none⟩) n c) ∧ w''.cell? ⟨w1.heap.size + 1, 0, none⟩ = some (.map (some w1.heap.size))) (go_keep) (first | (go_at_call 12; refine (Calls.mono (TOi.out _ ?nd) ?_); (case nd => exact HS.out.below (HBA.out _)); rintro e w6 ⟨rfl, hb⟩; obtain ⟨w7, hput, MK7, s0, s1, p0, p1, BG7, HB7, hs7⟩ := CALLD.out _ w6 hb; clear hb))
        go_wp2_with fail
        go_roundg (n - (i + 1))
        case measure => omega
        case rel => exact ⟨i + 1, by omega, by omega, by go_num, hs7, HB7, BG7.out, MK7⟩
    · have hie : n = i := by omega
      subst hie
      obtain ⟨V, hV⟩ : ∃ V, V = wr := ⟨_, rfl⟩
      subst hV
      obtain ⟨W9, hW9⟩ : ∃ W9, (V.alloc (.cells #[.slice none 0 0] 33)).alloc (.cells #[.func (.func 28) #[] #[.pointer (some ⟨V.heap.size, 0, none⟩), .pointer (some ⟨w.heap.size, 0, none⟩), .pointer (some ⟨V.heap.size + 1, 0, none⟩), .pointer (some ⟨w1.heap.size + 1, 0, none⟩)]] 58) = W9 := ⟨_, rfl⟩
      have hs9 : W9.heap.size = V.heap.size + 2 := by rw [← hW9]; simp
      have hb9 : Below V.heap.size V W9 := by rw [← hW9]; exact two_belowS _ _ _
      have e0 := keepC m0 hb9
      have e1 := keepC m1 hb9
      have eG := keepC cG hb9
      have eO : W9.cell? ⟨V.heap.size, 0, none⟩ = some (.slice none 0 0) := by rw [← hW9]; exact alloc_cell1 V _ _ 0 _ rfl
      have eW : W9.cell? ⟨V.heap.size + 1, 0, none⟩ = some (.func (.func 28) #[] #[.pointer (some ⟨V.heap.size, 0, none⟩), .pointer (some ⟨w.heap.size, 0, none⟩), .pointer (some ⟨V.heap.size + 1, 0, none⟩), .pointer (some ⟨w1.heap.size + 1, 0, none⟩)]) := by rw [← hW9]; exact alloc_cell2 V _ _ 0 _ rfl
      have eF : W9.frozen? ⟨V.heap.size, 0, none⟩ = false := by rw [← hW9]; exact box_frozen ((Below.heap_alloc _ _ _ (by simp)).trans (heap_alloc_new V _))
      have MK9 := MK.out.kept (hb9.block _ MK.out.lt)
      have hmlt := MK.out.lt
      have OI : OrdI W9 V.heap.size [] W9 := ⟨Off.refl _ _, _, eO, eF, World.ownsRow_nil _ _ _ _⟩
      have NDX : ∀ w5, Off (fun k => k = V.heap.size) W9 w5 → NdsAt w5 a S := fun w5 h5 => (HS.out.below HBW.out).below (hb9.trans (h5.below (by omega) (fun k hk => by have : k = V.heap.size := hk; omega)))
      have NAB : S.length ≠ 0 → ∀ b o, a = some ⟨b, o, none⟩ → b ≠ V.heap.size := fun h0 b o e => by
        obtain ⟨b0, o0, e0, c0, _⟩ := (HS.out.below HBW.out) 0 (by omega)
        rw [e] at e0
        cases e0
        have : b < V.heap.size := World.block_lt_of_cell? _ _ c0
        omega
      have FW : Hid _ := FLW.out W9 V.heap.size w.heap.size (V.heap.size + 1) (w1.heap.size + 1) w1.heap.size n (by omega) (by omega) (by omega) (by omega) (by omega) NDX e0 eW eG MK9 (NAB (by rw [HN.out]; omega)) W9 OI
      have HB9 : Hid (Below w.heap.size w W9) := HBW.out.trans (hb9.mono HBW.out.size)
      have HS9 : Hid (V.heap.size < W9.heap.size ∧ V.heap.size + 1 < W9.heap.size ∧ w.heap.size ≤ V.heap.size) := ⟨by omega, by omega, by omega⟩
      have x0 := World.block_lt_of_cell? _ _ e0
      have x1 := World.block_lt_of_cell? _ _ e1
      have x2 := HS9.out.1
      have x3 := HS9.out.2.1
      clear MK9 OI NDX NAB hs9 hb9
      go_upto_region 14 with fail
      try rw [hW9]
      clear hW9
      go_wp2_with fail
      refine Calls.mono FW.out ?_
      rintro e w8 ⟨rfl, hOff, v8, c8, _, own8⟩
      have HB8 : Hid (Below w.heap.size w w8) := HB9.out.trans (hOff.below HB9.out.size (fun j hj => by have : j = V.heap.size := hj; have := HS9.out.2.2; omega))
      have OW8 : Hid (w8.ownsRow w.heap.size 3 1 v8 RES.length (RES.map (Value.int .i64))) := ownsRow_baseL own8 HB9.out.size
      obtain ⟨ra, rc, hv8, _⟩ := ints_own own8
      subst hv8
      clear own8 hOff
      obtain ⟨rl, hrl⟩ : ∃ z, RES.length = z := ⟨_, rfl⟩
      have HRL : Hid (RES.length = rl) := hrl
      rw [hrl] at OW8 c8
      clear hrl
      go_wp2_with fail
      refine bodyPost_ret (v := .tuple #[.slice ra rl rc, .int .i64 0]) (by simp [results, Try.results9, go_sem]) rfl ⟨_, rfl, HB8.out, by rw [HRL.out]; exact OW8.out⟩
end Go.Proofs.Ytlgnapdhnlhkpaa
