/-
  The reference's SlotsOf.
-/
import Derived.Test.YtlgnapdhnlhkpaaULs
import Derived.Test.YtlgnapdhnlhkpaaULnRe
import Derived.Test.YtlgnapdhnlhkpaaURv
namespace Go.Proofs.Ytlgnapdhnlhkpaa
open Go.RowKit

theorem rOrd_likeS (a : Option Addr) (c : Nat) (S : List Nd) (k : Nat) (u : Int) (w : World) (wf : WF S) (hC : RChk a c S) (hS : NdsAt w a S) (hk : k < S.length) (hE : tcheckE S [((k : Int), u)] = 0) :
    Calls Try.prog 34 #[.agg #[.slice a S.length c], .agg #[.int .i64 k, .int .i64 u]] w fun e w' => ∃ sa cap, e = .returned (.tuple #[.slice sa (orderF S S.length k).length cap, .int .i64 0]) ∧ Below w.heap.size w w' ∧ IntsAt w' sa (orderF S S.length k) := by
  refine (rOrd_ok a c S k u w wf hC hS hk hE).mono (fun e w' ⟨v, e1, hb, ho⟩ => ?_)
  obtain ⟨pa, pc, h5, hi, _⟩ := own_slice ho
  subst h5
  exact ⟨pa, pc, e1, hb, hi⟩

/-- The numbers that are taken. -/
def takenB (L : List Slt) (x : Int) : Bool := L.any fun s => decide (s.num = x)

theorem taken_snoc (L : List Slt) (s : Slt) (j : Int) : (if j = s.num then true else takenB L j) = takenB (L ++ [s]) j := by
  unfold takenB
  rw [List.any_append]
  by_cases e : j = s.num
  · simp [e]
  · have : ¬ s.num = j := fun h => e h.symm
    simp [e, this]

/-- A slot's box: where, its number, what is given so far. -/
def SltBox (w : World) (b : Nat) (pl num : Int) (v : Value) : Prop := w.heap[b]? = some (.cells #[.int .i64 pl, .int .i64 num, v] 41 (0, 0))

theorem SltBox.cells {w : World} {b : Nat} {pl num : Int} {v : Value} (h : SltBox w b pl num v) : w.cell? ⟨b, 0, none⟩ = some (.int .i64 pl) ∧ w.cell? ⟨b, 1, none⟩ = some (.int .i64 num) ∧ w.cell? ⟨b, 2, none⟩ = some v ∧ ∀ o, w.frozen? ⟨b, o, none⟩ = false := by
  unfold SltBox at h
  exact ⟨by simp [World.cell?, h], by simp [World.cell?, h], by simp [World.cell?, h], fun o => by simp [World.frozen?, h]⟩
theorem SltBox.set {w : World} {b : Nat} {pl num : Int} {v v' : Value} (h : SltBox w b pl num v) : SltBox (w.setCell ⟨b, 2, none⟩ v') b pl num v' := by
  show (w.heap.modify b _)[b]? = _
  rw [Array.getElem?_modify, if_pos rfl, h]
  rfl
theorem SltBox.new (w : World) (pl num : Int) (v : Value) : SltBox (w.alloc (.cells #[.int .i64 pl, .int .i64 num, v] 41)) w.heap.size pl num v := heap_alloc_new w _

theorem OwnS.step2 {w5 w3 : World} {B : Nat} {L : List Slt} {K : Nat → Value} {v v1 v2 : Value} {s : Slt} {o3 : Obj} (I : OwnS B L K v w5) (own1 : w5.ownsRow B 3 1 v1 s.gv.length (s.gv.map (Value.int .i64)))
    (h3 : (w5.alloc o3).grownBy w3 v.ownBlock) (own3 : w3.ownsRow B 41 3 v2 (L.length + 1) (scells L K ++ scell s v1)) :
    OwnS B (L ++ [s]) (fun i => if i = L.length then v1 else K i) v2 w3 := by
  obtain ⟨hm, hk⟩ := I
  have e3 : ∀ k, k < w5.heap.size → v.ownBlock ≠ some k → w3.heap[k]? = w5.heap[k]? := fun k hk hk2 =>
    (h3.block k (by simp; omega) (fun e => hk2 e.symm)).trans (Below.heap_alloc _ _ _ hk)
  refine ⟨?_, fun i hi => ?_⟩
  · rw [← scells_snoc, List.length_append, List.length_singleton]
    exact own3
  · rw [List.length_append, List.length_singleton] at hi
    by_cases ei : i = L.length
    · subst ei
      simp only [if_true]
      rw [slt_last]
      exact owns_block own1 (fun k hk => e3 k (own1.lt k hk).2 (owns_apart own1 hm (by decide) k hk))
    · simp only [if_neg ei]
      have hi' : i < L.length := by omega
      rw [slt_left hi']
      have hkr := hk i hi'
      exact owns_block hkr (fun k hk => e3 k (hkr.lt k hk).2 (owns_apart hkr hm (by decide) k hk))

theorem cell_one_newS (w : World) (x : Value) (t : TypeId) : ∀ j u, [x][j]? = some u → (w.alloc (.cells #[x] t)).cell? ((⟨w.heap.size, 0, none⟩ : Addr).add j) = some u := by
  intro j u hj
  match j, hj with
  | 0, hj =>
    simp at hj
    subst hj
    simp [Addr.add]

set_option maxRecDepth 100000 in
set_option maxHeartbeats 8000000 in
theorem rSlots_ok (a : Option Addr) (c : Nat) (S : List Nd) (H r : Nat) (w : World) (wf : WF S) (hC : RChk a c S) (hH : H < S.length) (hr : r < S.length) (er : rootE S H = r) (hh : (nd S r).h = H) (hS : NdsAt w a S) :
    Calls Try.prog 14 #[.agg #[.slice a S.length c], .int .i64 (H : Int)] w fun e w' => ∃ v K, e = .returned v ∧ Below w.heap.size w w' ∧ OwnS w.heap.size (slotsF S H) K v w' := by
  obtain ⟨i0, hi0, hz0, hz1, hz2⟩ := info_parts info41
  obtain ⟨j0, hj0, jz0, jz1, jz2⟩ := info_parts info3
  have hN := wf.small
  have hu := wf.used_host hr (by omega)
  have RES : Hid (slotsF S H = slotsL S H (orderF S S.length r)) := by
    show _ = _
    unfold slotsF
    rw [er, if_neg (by omega), Int.toNat_natCast]
  have d := fun (W : World) (hW : NdsAt W a S) => rRootOf_any a c S (H : Int) W (by omega) (by omega) hW
  rw [er] at d
  have D : Hid _ := d
  have DO : Hid (∀ W, NdsAt W a S → Calls _ _ _ _ _) := fun W hW => rOrd_likeS a c S r (nd S r).n W wf hC hW hr (tcheck_of hr hu rfl wf)
  have HS : Hid (NdsAt w a S) := hS
  have TT : Hid (∀ y, y < S.length → 0 ≤ (nd S y).t ∧ (nd S y).t ≤ 99) := fun y hy => by
    have h1 := (node_parts (wf.node y hy)).1
    unfold rangeB at h1
    simp at h1
    omega
  have PL : Hid (∀ y ∈ orderF S S.length r, ∃ x : Nat, y = x ∧ x < S.length) := fun y hy => by
    obtain ⟨q, e, hq, _⟩ := mem_order wf hr (wf.deep_all hr) y hy
    exact ⟨q, e, hq⟩
  have KP : Hid (∀ j, j < (nd S H).ks.length → ∃ x : Nat, (nd S H).ks.getD j 0 = x ∧ x < S.length) := fun j hj => by
    obtain ⟨k, e, hk, _⟩ := wf.kid hH (x := (nd S H).ks.getD j 0) (by rw [getD_elem _ _ hj]; exact List.getElem_mem hj)
    exact ⟨k, e, hk⟩
  have KL : (nd S H).ks.length ≤ 24 := wf.kids_small hH
  have hPl : (orderF S S.length r).length ≤ 24 := by have := order_le wf hr; omega
  clear d hS hu er wf hC
  generalize orderF S S.length r = P at *
  obtain ⟨m, hm⟩ : ∃ m, P.length = m := ⟨_, rfl⟩
  have HM : Hid (P.length = m) := hm
  rw [hm] at DO hPl
  obtain ⟨n, hn⟩ : ∃ n, S.length = n := ⟨_, rfl⟩
  have HN : Hid (S.length = n) := hn
  rw [hn] at hN hH hr D DO TT PL KP ⊢
  have hH2 : (H : Int) < (n : Int) := by omega
  have hr2 : (r : Int) < (n : Int) := by omega
  have hr3 : ((r : Int) == -1) = false := by simp
  have hr4 : decide ((r : Int) = -1) = false := by simp
  have MF : Hid (∀ mk, markedF S H mk = flt (notMarkB S mk) (nd S H).ks) := fun _ => rfl
  obtain ⟨Ks, hKs⟩ : ∃ z, (nd S H).ks = z := ⟨_, rfl⟩
  have HKs : Hid ((nd S H).ks = Ks) := hKs
  rw [hKs] at KP KL MF
  obtain ⟨kl, hkl⟩ : ∃ z, Ks.length = z := ⟨_, rfl⟩
  have HKL : Hid (Ks.length = kl) := hkl
  rw [hkl] at KP KL
  clear hn hm hKs hkl
  have hmm := @run_makeMap Try.prog
  go_enter Try.func14, Try.ntmps14
  go_wp2_with fail
  refine Calls.mono (D.out _ (HS.out.below (one_belowS _ _))) ?_
  rintro e w1 ⟨rfl, hb1⟩
  have l0 := keepC (alloc_cell w #[.slice a n c] 24 0 rfl) hb1
  have HB1 : Hid (Below w.heap.size w w1) := (one_belowS w _).trans (hb1.mono (by simp))
  obtain ⟨nb, no, ea, _, c1, _⟩ := (HS.out.below HB1.out) r (by rw [HN.out]; exact hr)
  subst ea
  have q0 := World.block_lt_of_cell? _ _ l0
  have q1 := World.block_lt_of_cell? _ _ c1
  clear hb1 D
  generalize (nd S r).n = U at *
  go_wp2_with fail
  go_region_held3 (fun w'' => w''.cell? ⟨w.heap.size, 0, none⟩ = some (.slice (some ⟨nb, no, none⟩) n c) ∧ w''.cell? ⟨nb, no + r * 8 + 1, none⟩ = some (.int .i64 U)) (go_keep) (first | (go_at_call 34; refine (Calls.mono (DO.out _ ?nd) ?_); (case nd => exact HS.out.below HB1.out.drew); rintro e w2 ⟨sa, cap, rfl, hb2, hI⟩; have HB2 : Hid (Below w.heap.size w w2) := HB1.out.drew.trans (hb2.mono HB1.out.size); have l2 : w2.cell? ⟨w.heap.size, 0, none⟩ = some (.slice (some ⟨nb, no, none⟩) n c) := (hb2.cell (by exact q0)).trans l0; have d1 : w2.cell? ⟨nb, no + r * 8 + 1, none⟩ = some (.int .i64 U) := (hb2.cell (by exact q1)).trans c1; have s2 : w.heap.size < w2.heap.size := Nat.lt_of_lt_of_le q0 hb2.size; have s3 : nb < w2.heap.size := Nat.lt_of_lt_of_le q1 hb2.size; have HI : Hid (IntsAt w2 sa P) := hI; clear hb2 hI))
  have MK0 : Hid (MarksAt (w2.alloc (.map #[] 0)) w2.heap.size 0 (takenB (slotsL S H (P.take 0)))) := (MarksAt.made w2).congr (fun x => rfl)
  go_wp2_with fail
  go_loopg [9, 37] m (fun g s9 s37 wr => ∃ (i : Nat) (K : Nat → Value), i ≤ m ∧ m - i ≤ g ∧ s37 = .int .i64 i ∧ Hid (Below w2.heap.size w2 wr) ∧ w2.heap.size + 1 ≤ wr.heap.size ∧ Hid (MarksAt wr w2.heap.size i (takenB (slotsL S H (P.take i)))) ∧ Hid (OwnS (w2.heap.size + 1) (slotsL S H (P.take i)) K s9 wr))
  case atStart => exact ⟨0, fun _ => .slice none 0 0, by omega, by omega, rfl, one_belowS _ _, by simp, MK0, (show OwnS (w2.heap.size + 1) (slotsL S H []) _ _ _ from ⟨World.ownsRow_nil _ _ _ _, fun i hi => by cases hi⟩)⟩
  case round =>
    obtain ⟨i, K, hi, hg, rfl, HB, hsz, MK, HO⟩ := hrel
    clear MK0
    have cs := keepC l2 HB.out
    have HF : (slotsL S H (P.take i)).length ≤ 24 := slots_few i (by rw [HM.out]; exact hPl)
    obtain ⟨qa, qc, hv, _⟩ := HO.out.slts
    subst hv
    have HBW : Hid (Below w.heap.size w wr) := HB2.out.trans (HB.out.mono HB2.out.size)
    have mlt := MK.out.lt
    by_cases hlt : i < m
    · obtain ⟨y, hy, hyn⟩ := PL.out (P.getD i 0) (by rw [getD_elem P 0 (by rw [HM.out]; exact hlt)]; exact List.getElem_mem _)
      obtain ⟨pb, po, ep, hpc⟩ := (HI.out.below HB.out) i (by rw [HM.out]; exact hlt)
      subst ep
      rw [hy] at hpc
      obtain ⟨nb', no', ea, _, _, c2, _⟩ := (HS.out.below HBW.out) y (by rw [HN.out]; exact hyn)
      cases ea
      obtain ⟨nb', no', ea, _, _, _, _, _, ⟨ka, kc, k5, hki⟩, _⟩ := (HS.out.below HBW.out) H (by rw [HN.out]; exact hH)
      cases ea
      rw [HKs.out] at k5 hki
      rw [HKL.out] at k5
      have HKI : Hid (IntsAt wr ka Ks) := hki
      have hy2 : (y : Int) < (n : Int) := by omega
      have hi2 : (i : Int) < (m : Int) := by omega
      have NX : Hid (slotsL S H (P.take (i + 1)) = slotStep S H (slotsL S H (P.take i)) (y : Int)) := slots_take (by rw [HM.out]; exact hlt) hy
      have ht := TT.out y hyn
      have HT : Hid (numF S (y : Int) = (nd S y).t - 90) := by show _ = _; unfold numF; rw [Int.toNat_natCast]
      clear hy hki
      generalize (nd S y).t = T at *
      obtain ⟨Q, hQ⟩ : ∃ Q, T - 90 = Q := ⟨_, rfl⟩
      have hw : IntKind.i64.wrap (T - 90) = Q := by rw [hQ]; have := hQ; unfold IntKind.wrap; simp [IntKind.bits, IntKind.signed]; omega
      generalize slotsL S H (P.take i) = L at *
      obtain ⟨ln, hln⟩ : ∃ z, L.length = z := ⟨_, rfl⟩
      have HLN : Hid (L.length = ln) := hln
      rw [hln] at HO HF ⊢
      clear hln
      by_cases hneg : Q < 0
      · have EQ : Hid (slotsL S H (P.take (i + 1)) = L) := by
          show _ = _
          rw [NX.out]
          unfold slotStep
          rw [if_pos (by rw [HT.out]; omega)]
        go_wp2_with fail
        go_roundg (m - (i + 1))
        case measure => omega
        case rel => exact ⟨i + 1, K, by omega, by omega, by go_num, HB, hsz, (show MarksAt _ _ _ _ by rw [EQ.out]; exact MK.out.mono (by omega)), (show OwnS _ (slotsL S H (P.take (i + 1))) K (.slice qa ln qc) _ by rw [EQ.out]; exact HO.out)⟩
      · have hq9 : 0 ≤ Q ∧ Q ≤ 9 := by omega
        have EQ : Hid (slotsL S H (P.take (i + 1)) = L ++ [⟨(y : Int), Q, if takenB L Q then [] else markedF S H Q⟩]) := by
          show _ = _
          rw [NX.out]
          unfold slotStep
          rw [HT.out, hQ, if_neg (by omega)]
          rfl
        have hwf : (Lit.int .i64 Q).wf = true := by
          have h := wf_place (q := Q.toNat) (by omega)
          rwa [show ((Q.toNat : Nat) : Int) = Q by omega] at h
        have hneg2 : ¬ Q < 0 := hneg
        have hneg3 : decide (Q < 0) = false := decide_eq_false hneg
        clear NX HT hQ ht
        have zs := World.block_lt_of_cell? _ _ cs
        obtain ⟨t, htk⟩ : ∃ t, takenB L Q = t := ⟨_, rfl⟩
        have HTK : Hid (takenB L Q = t) := htk
        rw [htk] at EQ
        clear htk
        obtain ⟨V, hV⟩ : ∃ V, V = wr := ⟨_, rfl⟩
        subst hV
        have SB0 : Hid (SltBox (V.alloc (.cells #[.int .i64 (y : Int), .int .i64 Q, .slice none 0 0] 41)) V.heap.size (y : Int) Q (.slice none 0 0)) := SltBox.new V _ _ _
        have zb := World.block_lt_of_cell? _ _ k5
        have l00 : Hid (([] : List Int) = if t then [] else flt (notMarkB S Q) (Ks.take 0)) := by show _ = _; cases t <;> simp [flt]
        go_wp2_with fail
        go_loopg [60] kl (fun g s60 w5 => ∃ (j : Nat) (v : Value) (l : List Int), j ≤ kl ∧ kl - j ≤ g ∧ s60 = .int .i64 j ∧ l.length ≤ j ∧ V.heap.size + 1 ≤ w5.heap.size ∧ Hid (Below V.heap.size V w5) ∧ Hid (SltBox w5 V.heap.size (y : Int) Q v) ∧ Hid (w5.ownsRow (V.heap.size + 1) 3 1 v l.length (l.map (Value.int .i64))) ∧ Hid (l = if t then [] else flt (notMarkB S Q) (Ks.take j)))
        case atStart => exact ⟨0, .slice none 0 0, [], by omega, by omega, rfl, by simp, by simp, one_belowS _ _, SB0, World.ownsRow_nil _ _ _ _, l00⟩
        case round =>
          obtain ⟨j, v, l, hj, hg2, rfl, hlj, hsz5, HB5, SB, HOV, HLE⟩ := hrel
          clear SB0 l00
          obtain ⟨va, vc, hv, _⟩ := ints_own HOV.out
          subst hv
          obtain ⟨b0, b1, b2, bf⟩ := SB.out.cells
          have bf2 := bf 2
          have cs5 := keepC cs HB5.out
          have zs5 := World.block_lt_of_cell? _ _ cs5
          have MK5 : Hid (MarksAt wr w2.heap.size i (takenB L)) := MK.out.kept (HB5.out.block _ mlt)
          have hlook := MK5.out.look (t := 48) Try.underlying48 (k := Q) hwf
          rw [HTK.out] at hlook
          have HBW5 : Hid (Below w.heap.size w wr) := HBW.out.trans (HB5.out.mono HBW.out.size)
          by_cases hlt3 : j < kl
          · have hlt4 : (j : Int) < (kl : Int) := by omega
            obtain ⟨x, hx, hxn⟩ := KP.out j hlt3
            obtain ⟨kb, ko, ek, hkc⟩ := (HKI.out.below HB5.out) j (by rw [HKL.out]; exact hlt3)
            subst ek
            rw [hx] at hkc
            obtain ⟨nb', no', ea, _, _, _, c3, _⟩ := (HS.out.below HBW5.out) x (by rw [HN.out]; exact hxn)
            cases ea
            have hxn2 : (x : Int) < (n : Int) := by omega
            have NXT : Hid (flt (notMarkB S Q) (Ks.take (j + 1)) = flt (notMarkB S Q) (Ks.take j) ++ (if (nd S x).m = Q then [(x : Int)] else [])) := by
              have e := flt_succ (notMarkB S Q) Ks j (by rw [HKL.out]; exact hlt3)
              rw [hx] at e
              show flt _ _ = _
              rw [e]
              unfold notMarkB
              rw [Int.toNat_natCast]
              by_cases h : (nd S x).m = Q <;> simp [h]
            clear hx
            generalize (nd S x).m = mk at *
            obtain ⟨ln2, hln2⟩ : ∃ z, l.length = z := ⟨_, rfl⟩
            have HLN2 : Hid (l.length = ln2) := hln2
            rw [hln2] at HOV hlj b2
            have SB2 : Hid (SltBox wr V.heap.size (y : Int) Q (.slice va ln2 vc)) := by have h := SB.out; rw [hln2] at h; exact h
            clear hln2 SB
            cases t with
            | true =>
              have E2 : Hid (l = if true then [] else flt (notMarkB S Q) (Ks.take (j + 1))) := HLE.out
              clear NXT
              go_wp2_with fail
              go_roundg (kl - (j + 1))
              case measure => omega
              case rel => exact ⟨j + 1, _, l, by omega, by omega, by go_num, by rw [HLN2.out]; omega, hsz5, HB5, SB2, (show World.ownsRow _ _ _ _ _ _ _ by rw [HLN2.out]; exact HOV.out), E2⟩
            | false =>
              by_cases hmk : mk = Q
              · have E2 : Hid (l ++ [(x : Int)] = if false then [] else flt (notMarkB S Q) (Ks.take (j + 1))) := by
                  show _ = flt (notMarkB S Q) (Ks.take (j + 1))
                  rw [NXT.out, if_pos hmk, HLE.out]
                  rfl
                have OB : Hid (∀ k, (Value.slice va ln2 vc).ownBlock = some k → V.heap.size + 1 ≤ k) := fun k hk => (HOV.out.lt k hk).1
                clear NXT
                subst hmk
                go_wp2_with (at_builtin; refine wpList_append_own _ rfl _ _ 33 rfl (V.heap.size + 1) 3 j0 (.int .i64 0) 1 8 Try.underlying33 hj0 jz0 jz1 jz2 rfl (by decide) (.slice va ln2 vc) ln2 (l.map (Value.int .i64)) rfl (HOV.out.alloc _) ⟨wr.heap.size, 0, none⟩ 1 1 [.int .i64 (x : Int)] rfl rfl (cell_one_newS _ _ _) ?c2 ?c3 ?c4 ?c5 ?_)
                case c2 => first | rfl | (intro u hu; simp at hu; subst hu; rfl) | simp
                case c3 => unfold maxLen; omega
                case c4 => omega
                case c5 => first | omega | (simp; omega)
                intro v6 w6 own6 grow6 _
                have e6 : (l ++ [(x : Int)]).map (Value.int .i64) = l.map (Value.int .i64) ++ [.int .i64 (x : Int)] := by simp
                rw [← e6] at own6
                obtain ⟨na, nc, hv6, _⟩ := ints_own own6
                have e5 : (l ++ [(x : Int)]).length = ln2 + 1 := by simp [HLN2.out]
                rw [e5] at hv6
                subst hv6
                have hs6 := grow6.size
                simp only [World.size_alloc] at hs6
                have hb6 : Below (V.heap.size + 1) wr w6 := ((Below.refl _ wr).alloc hsz5 _).grown grow6 (by simp; omega) (fun k hk => OB.out k hk)
                have SB6 : SltBox w6 V.heap.size (y : Int) mk (.slice va ln2 vc) := (hb6.block V.heap.size (by omega)).trans SB2.out
                obtain ⟨g0, g1, g2, gf⟩ := SB6.cells
                have gf2 := gf 2
                have z6 : V.heap.size < w6.heap.size := by omega
                have FS : Hid (SltBox (w6.setCell ⟨V.heap.size, 2, none⟩ (.slice na (ln2 + 1) nc)) V.heap.size (y : Int) mk (.slice na (ln2 + 1) nc)) := SB6.set
                have FB : Hid (Below V.heap.size V (w6.setCell ⟨V.heap.size, 2, none⟩ (.slice na (ln2 + 1) nc))) := (HB5.out.trans (hb6.mono (by omega))).setCell (by exact Nat.le_refl _) _
                have FO : Hid ((w6.setCell ⟨V.heap.size, 2, none⟩ (.slice na (ln2 + 1) nc)).ownsRow (V.heap.size + 1) 3 1 (.slice na (ln2 + 1) nc) (l ++ [(x : Int)]).length ((l ++ [(x : Int)]).map (Value.int .i64))) := by
                  rw [e5]
                  exact owns_block own6 (fun k hk => Below.heap_setCell _ _ _ _ (by have := (own6.lt k hk).1; show k ≠ V.heap.size; omega))
                clear own6 grow6 hb6 SB6 e6 gf
                go_wp2_with fail
                go_roundg (kl - (j + 1))
                case measure => omega
                case rel => exact ⟨j + 1, _, l ++ [(x : Int)], by omega, by omega, by go_num, by rw [e5]; omega, by simp [World.setCell]; omega, FB, FS, FO, E2⟩
              · have hd : decide (mk = Q) = false := decide_eq_false hmk
                have hd2 : (mk == Q) = false := beq_eq_false_iff_ne.2 hmk
                have E2 : Hid (l = if false then [] else flt (notMarkB S Q) (Ks.take (j + 1))) := by
                  show _ = flt (notMarkB S Q) (Ks.take (j + 1))
                  rw [NXT.out, if_neg hmk, HLE.out]
                  simp
                clear NXT
                go_wp2_with fail
                go_roundg (kl - (j + 1))
                case measure => omega
                case rel => exact ⟨j + 1, _, l, by omega, by omega, by go_num, by rw [HLN2.out]; omega, hsz5, HB5, SB2, (show World.ownsRow _ _ _ _ _ _ _ by rw [HLN2.out]; exact HOV.out), E2⟩
          · have hje : kl = j := by omega
            subst hje
            have EQ2 : Hid (slotsL S H (P.take (i + 1)) = L ++ [⟨(y : Int), Q, l⟩]) := by
              show _ = _
              rw [EQ.out, HLE.out, MF.out, List.take_of_length_le (by rw [HKL.out]; omega)]
            obtain ⟨w7, hput, mk7, gr7⟩ := MK5.out.put (t := 48) Try.underlying48 (by unfold maxLen; omega) (k := Q) hwf true
            have MK7 : Hid (MarksAt w7 w2.heap.size (i + 1) (takenB (L ++ [⟨(y : Int), Q, l⟩]))) := mk7.congr (fun x => taken_snoc L ⟨(y : Int), Q, l⟩ x)
            have far7 : ∀ k, k < wr.heap.size → k ≠ w2.heap.size → w7.heap[k]? = wr.heap[k]? := fun k h1 h2 => gr7.block k h1 (fun e => h2 (Option.some.inj e))
            have hs7 := gr7.size
            have SB7 : SltBox w7 V.heap.size (y : Int) Q (.slice va l.length vc) := (far7 V.heap.size (by omega) (by omega)).trans SB.out
            obtain ⟨g0, g1, g2, _⟩ := SB7.cells
            have OV7 : Hid (w7.ownsRow (w2.heap.size + 1) 3 1 (.slice va l.length vc) l.length (l.map (Value.int .i64))) := ownsRow_baseL (owns_block HOV.out (fun k hk => far7 k (HOV.out.lt k hk).2 (by have := (HOV.out.lt k hk).1; omega))) (by omega)
            have OS7 : Hid (OwnS (w2.heap.size + 1) L K (.slice qa ln qc) w7) := (HO.out.below HB5.out).other (fun k h1 h2 => far7 k h2 (by omega))
            have HB7 : Hid (Below w2.heap.size w2 w7) := (HB.out.trans (HB5.out.mono (by omega))).grown gr7 (by omega) (fun k hk => by cases hk; exact Nat.le_refl _)
            have z7 : V.heap.size < w7.heap.size := by omega
            have OWN7 : Hid (∀ o1, (w7.alloc o1).ownsRow (w2.heap.size + 1) 41 3 (.slice qa ln qc) ln (scells L K)) := fun o1 => (by have h := OS7.out.1; rw [HLN.out] at h; exact h.alloc _)
            clear mk7 gr7 far7 SB7 SB HOV b0 b1 b2 bf bf2 hlook
            obtain ⟨ln2, hln2⟩ : ∃ z, l.length = z := ⟨_, rfl⟩
            have HLN2 : Hid (l.length = ln2) := hln2
            rw [hln2] at g2 OV7 hlj
            clear hln2
            go_wp2_with (at_builtin; refine wpList_append_own _ rfl _ _ 27 rfl (w2.heap.size + 1) 41 i0 _ 3 40 Try.underlying27 hi0 hz0 hz1 hz2 rfl (by decide) (.slice qa ln qc) ln (scells L K) rfl (OWN7.out _) ⟨w7.heap.size, 0, none⟩ 1 1 (scell ⟨(y : Int), Q, l⟩ (.slice va ln2 vc)) rfl rfl ?c1 ?c2 ?c3 ?c4 ?c5 ?_)
            case c1 => first | (intro j u h; exact h) | exact news3Le (by go_simp) (by go_simp) (by go_simp)
            case c2 => exact one3Le
            case c3 => unfold maxLen; omega
            case c4 => omega
            case c5 => first | omega | (simp; omega)
            intro v8 w8 own8 grow8 _
            have FIN : Hid (OwnS (w2.heap.size + 1) (slotsL S H (P.take (i + 1))) (fun k => if k = L.length then .slice va ln2 vc else K k) v8 w8) := by
              rw [EQ2.out]
              exact OS7.out.step2 (s := ⟨(y : Int), Q, l⟩) (show World.ownsRow _ _ _ _ _ l.length _ by rw [HLN2.out]; exact OV7.out) grow8 (by rw [HLN.out]; exact own8)
            have hs8 := grow8.size
            simp only [World.size_alloc] at hs8
            have ob := OS7.out.1.lt
            have HB8 : Hid (Below w2.heap.size w2 w8) := (HB7.out.alloc (by omega) _).grown grow8 (by simp; omega) (fun k hk => by have := (ob k hk).1; omega)
            have MK8 : Hid (MarksAt w8 w2.heap.size (i + 1) (takenB (slotsL S H (P.take (i + 1))))) := by
              rw [EQ2.out]
              exact MK7.out.kept ((grow8.block w2.heap.size (by simp; omega) (fun e => by have := (ob _ e.symm).1; omega)).trans (Below.heap_alloc _ _ _ MK7.out.lt))
            clear own8 grow8 ob
            go_wp2_with fail
            go_roundg (m - (i + 1))
            case measure => omega
            case rel => exact ⟨i + 1, _, by omega, by omega, by go_num, HB8, by omega, MK8, FIN⟩
    · have hie : m = i := by omega
      subst hie
      have FIN : Hid (OwnS w.heap.size (slotsF S H) K (.slice qa (slotsL S H (P.take m)).length qc) wr) := by
        have h := HO.out.base (B' := w.heap.size) (by omega)
        rw [RES.out]
        have e : P.take m = P := List.take_of_length_le (by rw [HM.out]; omega)
        rw [e] at h ⊢
        exact h
      clear HO HF MK
      generalize (slotsL S H (P.take m)).length = ln at *
      go_wp2
      go_ret
      exact ⟨_, K, rfl, HBW.out, FIN.out⟩
end Go.Proofs.Ytlgnapdhnlhkpaa
