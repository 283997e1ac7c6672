/-
  The reference's Dispatched, where nothing is wrong.
-/
import Derived.Test.YtplkfacaphejgaaUEeHvHe
import Derived.Test.YtplkfacaphejgaaUHgTp
import Derived.Test.YtplkfacaphejgaaUHp
import Derived.Test.YtplkfacaphejgaaULoHaSe
import Derived.Test.YtplkfacaphejgaaURqZe
import Derived.Deep.RegionHeld3
import Derived.Deep.DeepCutAuto
namespace Go.Proofs.Ytplkfacaphejgaa
open Go.RowKit Go.ChangeShapes Go.WideShapes
set_option linter.unusedVariables false

set_option maxRecDepth 100000 in
theorem infoStop : (Try.prog.info? 61).map (fun i => (i.zero, i.size, i.bytes)) = some (some (.agg #[.int .i64 0, .bool false]), 2, 16) := by kernel_rfl
theorem news2 {w : World} {b : Nat} {x : Int × Bool} (c0 : w.cell? ⟨b, 0, none⟩ = some (.int .i64 x.1)) (c1 : w.cell? ⟨b, 1, none⟩ = some (.bool x.2)) : ∀ j u, (scellEe x)[j]? = some u → w.cell? ((⟨b, 0, none⟩ : Addr).add j) = some u := fun j u hj => by
  rw [Addr.add_lit, Nat.zero_add]
  unfold scellEe at hj
  match j, hj with
  | 0, hj => cases hj; exact c0
  | 1, hj => cases hj; exact c1
  | (j + 2), hj => simp at hj
theorem stops_form {w : World} {B n : Nat} {v : Value} {xs : List Value} (h : w.ownsRow B 61 2 v n xs) : ∃ a c, v = .slice a n c := by
  rcases h.2 with ⟨e, e0⟩ | ⟨g, cap, cur, e, _⟩
  · exact ⟨none, 0, by rw [e, e0]⟩
  · exact ⟨_, cap, e⟩
theorem sps_own {B : Nat} {w : World} {v : Value} {X : List (Int × Bool)} (h : w.ownsRow B 61 2 v X.length (scellsEe X)) : ∃ a c, v = .slice a X.length c ∧ ∀ i (hi : i < X.length), ∃ b o, a = some ⟨b, o, none⟩ ∧ w.cell? ⟨b, o + i * 2, none⟩ = some (.int .i64 X[i].1) ∧ w.cell? ⟨b, o + i * 2 + 1, none⟩ = some (.bool X[i].2) := by
  have hc := fun g hg => h.cells (g := g) hg
  rcases h.2 with ⟨rfl, h0⟩ | ⟨g, cap, cur, rfl, _⟩
  · exact ⟨none, 0, by rw [h0], fun i hi => by omega⟩
  · refine ⟨some ⟨g, 0, none⟩, cap, rfl, fun i hi => ⟨g, 0, rfl, ?_⟩⟩
    have hx : ∀ j u, j < 2 → (scellEe X[i])[j]? = some u → w.cell? ⟨g, 0 + i * 2 + j, none⟩ = some u := fun j u hj hu => by
      have := hc g rfl (i * 2 + j) u (by rw [scells_atEe X hi hj]; exact hu)
      rw [Nat.zero_add]
      rwa [Addr.add_lit, Nat.zero_add] at this
    exact ⟨hx 0 _ (by omega) rfl, hx 1 _ (by omega) rfl⟩
theorem hrs_form {w : World} {B n : Nat} {v : Value} {xs : List Value} (h : w.ownsRow B 39 5 v n xs) : ∃ a c, v = .slice a n c := by
  rcases h.2 with ⟨e, e0⟩ | ⟨g, cap, cur, e, _⟩
  · exact ⟨none, 0, by rw [e, e0]⟩
  · exact ⟨_, cap, e⟩
theorem path_lineE {S : List Nd} {k : Nat} (hk : k < S.length) : lineF S (S.length + 1) (k : Int) = pathF S k := by
  rw [lineF, if_pos (isPl_nat.2 hk), Int.toNat_natCast]
  rfl

theorem MarksAt.congrF {w : World} {b n : Nat} {f g : Int → Bool} (h : MarksAt w b n f) (e : ∀ k, f k = g k) : MarksAt w b n g := by
  have : f = g := funext e
  rw [← this]
  exact h
/-- What the reference has at hand within its third loop: the map of who has heard, the row of calls. -/
structure LoopS (w6 wr : World) (S : List Nd) (k : Nat) (v : Value) (G : List Hr) : Prop where
  b : Below w6.heap.size w6 wr
  sz : w6.heap.size + 1 ≤ wr.heap.size
  mp : MarksAt wr w6.heap.size G.length (fun y => decide (y ∈ G.map Hr.id))
  ow : wr.ownsRow (w6.heap.size + 1) 36 4 v G.length (kcells (G.map (callH S k)))
theorem cell_keptF {w w' : World} {b o : Nat} (h : w'.heap[b]? = w.heap[b]?) : w'.cell? ⟨b, o, none⟩ = w.cell? ⟨b, o, none⟩ := by simp [World.cell?, h]
theorem LoopS.below {w6 wr wr' : World} {S : List Nd} {k : Nat} {v : Value} {G : List Hr} (h : LoopS w6 wr S k v G) (hb : Below wr.heap.size wr wr') : LoopS w6 wr' S k v G :=
  ⟨h.b.trans (hb.mono h.b.size), Nat.le_trans h.sz hb.size, h.mp.kept (hb.block _ h.mp.lt), owns_block h.ow (fun k hk => hb.block _ (h.ow.lt k hk).2)⟩
theorem LoopS.set {w6 wr : World} {S : List Nd} {k : Nat} {v : Value} {G : List Hr} (h : LoopS w6 wr S k v G) {cb o : Nat} (x : Value) (h1 : w6.heap.size < cb) (h2 : ∀ b, v.ownBlock = some b → b ≠ cb) : LoopS w6 (wr.setCell ⟨cb, o, none⟩ x) S k v G :=
  ⟨h.b.setCell (by show w6.heap.size ≤ cb; omega) _, by rw [World.size_setCell]; exact h.sz, h.mp.kept (Below.heap_setCell _ _ _ _ (by show w6.heap.size ≠ cb; omega)), owns_block h.ow (fun k hk => Below.heap_setCell _ _ _ _ (h2 k hk))⟩
theorem LoopS.more {w6 w8 w9 w10 : World} {S : List Nd} {k : Nat} {v v' : Value} {G : List Hr} {y : Hr} (h : LoopS w6 w8 S k v G) (ho : w9.ownsRow (w6.heap.size + 1) 36 4 v' (G.length + 1) (kcells (G.map (callH S k)) ++ kcell (callH S k y))) (hg : w8.grownBy w9 v.ownBlock)
    (hm : MarksAt w10 w6.heap.size (G.length + 1) (fun j => if j = y.id then true else decide (j ∈ G.map Hr.id))) (hg2 : w9.grownBy w10 (some w6.heap.size)) : LoopS w6 w10 S k v' (G ++ [y]) := by
  have hs := hg.size
  have hs2 := hg2.size
  have hz := h.sz
  refine ⟨(h.b.grown hg h.b.size (fun k hk => ?_)).grown hg2 (by have := h.b.size; omega) (fun k hk => by cases hk; exact Nat.le_refl _), by omega, ?_, ?_⟩
  · have := (h.ow.lt k hk).1
    omega
  · have e : (G ++ [y]).length = G.length + 1 := by simp
    rw [e]
    refine hm.congrF (fun j => ?_)
    by_cases hj : j = y.id
    · simp [hj]
    · simp [hj]
  · have e : (G ++ [y]).length = G.length + 1 := by simp
    rw [e, List.map_append, List.map_cons, List.map_nil, kcells_snoc]
    exact owns_block ho (fun k hk => hg2.block k (ho.lt k hk).2 (fun e => by have := (ho.lt k hk).1; have e2 : k = w6.heap.size := Option.some.inj e; omega))
theorem LoopS.form {w6 wr : World} {S : List Nd} {k : Nat} {v : Value} {G : List Hr} (h : LoopS w6 wr S k v G) : ∃ a c, v = .slice a G.length c := by
  rcases h.ow.2 with ⟨e, e0⟩ | ⟨g, cap, cur, e, _⟩
  · exact ⟨none, 0, by rw [e, e0]⟩
  · exact ⟨_, cap, e⟩

set_option maxRecDepth 100000 in
set_option maxHeartbeats 8000000 in
theorem rDisp_ok (a : Option Addr) (c : Nat) (S : List Nd) (la : Option Addr) (lc : Nat) (L : List Hr) (k : Nat) (u : Int) (w : World) (wf : WF S) (hC : RChk a c S) (hS : NdsAt w a S) (hk : k < S.length) (hku : (nd S k).u = true) (hE : tcheckE S [((k : Int), u)] = 0) (hBL : BigH L) (hH : HrsAt w la L) (hE1 : hcheckE L S.length = 0) :
    Calls Try.prog 5 #[.agg #[.slice a S.length c], .slice la L.length lc, .agg #[.int .i64 (k : Int), .int .i64 u]] w fun e w' => ∃ ca cc va vc, e = .returned (.tuple #[.slice ca ((toldF L (spotsF (pathF S k))).map (callH S k)).length cc, .slice va (leftF L ((toldF L (spotsF (pathF S k))).map Hr.id)).length vc, .int .i64 0]) ∧ Below w.heap.size w w' ∧ CalsAt w' ca ((toldF L (spotsF (pathF S k))).map (callH S k)) ∧ HrsAt w' va (leftF L ((toldF L (spotsF (pathF S k))).map Hr.id)) := by
  have hN := wf.small
  obtain ⟨hL24, hnd, hPL⟩ := hcheck_ok hE1
  obtain ⟨i0, hi0, hz0, hz1, hz2⟩ := info_parts infoStop
  obtain ⟨j0, hj0, jz0, jz1, jz2⟩ := info_parts infoCall
  have df := fun (W : World) (ha : Option Addr) (hW : NdsAt W a S) (hH : HandsAt W ha [((k : Int), u)]) => rFirst_any a c S ha 1 [((k : Int), u)] W (by omega) hC hW (by simp) hH
  rw [hE] at df
  have DF : Hid _ := df
  have d2 := fun (W : World) (hW : HrsAt W la L) => rhcheck_any la lc L (S.length : Int) W (by omega) hBL hW
  rw [hE1] at d2
  have D2 : Hid _ := d2
  have DL : Hid (∀ W, NdsAt W a S → Calls Try.prog 20 #[.agg #[.slice a S.length c], .int .i64 (k : Int)] W fun e w' => ∃ sa sc, e = .returned (.slice sa (pathF S k).length sc) ∧ Below W.heap.size W w' ∧ IntsAt w' sa (pathF S k)) := fun W hW => by
    have h := rLine_any a c S (k : Int) W hN hW
    rw [path_lineE hk] at h
    refine h.mono ?_
    rintro e w' ⟨v, rfl, hb, hown⟩
    obtain ⟨sa, sc, rfl, hi⟩ := ints_own hown
    exact ⟨sa, sc, rfl, hb, hi⟩
  have PS : (pathF S k).length ≤ 25 := by have := path_len S k; omega
  have PM : Hid (∀ y ∈ pathF S k, ∃ q : Nat, y = q ∧ q < S.length) := fun y hy => by
    obtain ⟨q, e, hq, _⟩ := wf.path_used hk hku hy
    exact ⟨q, e, hq⟩
  have DT : Hid (∀ (told : Nat) W, told < S.length → NdsAt W a S → Calls _ _ _ _ _) := fun told W ht hW => rTarget_any a c S k told W hN hW hk ht
  have HS : Hid (NdsAt w a S) := hS
  have HL : Hid (HrsAt w la L) := hH
  have BL : Hid (BigH L) := hBL
  clear hS hC df hE d2 hH hE1 hBL hku wf hnd hPL
  obtain ⟨P, hP⟩ : ∃ P, pathF S k = P := ⟨_, rfl⟩
  rw [hP] at DL PS PM ⊢
  clear hP
  obtain ⟨pl, hpl⟩ : ∃ z, P.length = z := ⟨_, rfl⟩
  have HPL : Hid (P.length = pl) := hpl
  rw [hpl] at DL PS
  clear hpl
  obtain ⟨n, hn⟩ : ∃ z, S.length = z := ⟨_, rfl⟩
  have HN : Hid (S.length = n) := hn
  rw [hn] at hN hk DF D2 DL PM DT ⊢
  clear hn
  obtain ⟨m, hm⟩ : ∃ z, L.length = z := ⟨_, rfl⟩
  have HM : Hid (L.length = m) := hm
  rw [hm] at hL24 D2 ⊢
  clear hm
  have POST : Hid (∀ (ca : Option Addr) (cc : Nat) (va : Option Addr) (vc cl fl : Nat) (W : World), ((toldF L (spotsF P)).map (callH S k)).length = cl → (leftF L ((toldF L (spotsF P)).map Hr.id)).length = fl → Below w.heap.size w W → CalsAt W ca ((toldF L (spotsF P)).map (callH S k)) → HrsAt W va (leftF L ((toldF L (spotsF P)).map Hr.id)) → ∃ ca' cc' va' vc', Ending.returned (.tuple #[.slice ca cl cc, .slice va fl vc, .int .i64 0]) = .returned (.tuple #[.slice ca' ((toldF L (spotsF P)).map (callH S k)).length cc', .slice va' (leftF L ((toldF L (spotsF P)).map Hr.id)).length vc', .int .i64 0]) ∧ Below w.heap.size w W ∧ CalsAt W ca' ((toldF L (spotsF P)).map (callH S k)) ∧ HrsAt W va' (leftF L ((toldF L (spotsF P)).map Hr.id))) := fun ca cc va vc cl fl W e1 e2 hb h1 h2 => ⟨ca, cc, va, vc, by rw [e1, e2], hb, h1, h2⟩
  go_enter Try.func5, Try.ntmps5
  go_wp2_with fail
  refine Calls.mono (DF.out _ _ (HS.out.below (three_below _ _ _ _)) (hands_one _ _ _ _ (by go_simp) (by go_simp))) ?_
  rintro e w1 ⟨rfl, hb1⟩
  simp only [World.size_alloc] at hb1
  obtain ⟨l0, l1, hsz, hB1⟩ := ord2_low hb1
  have HB1 : Hid (Below w.heap.size w w1) := hB1
  clear hB1 hb1 DF
  go_wp2_with fail
  refine Calls.mono (D2.out _ (HL.out.below HB1.out)) ?_
  rintro e w2 ⟨rfl, hb⟩
  have HB2 : Hid (Below w.heap.size w w2) := HB1.out.trans (hb.mono HB1.out.size)
  have m0 := keepC l0 hb
  have m1 := keepC l1 hb
  clear hb l0 l1 D2
  go_wp2_with fail
  refine Calls.mono (DL.out _ (HS.out.below HB2.out)) ?_
  rintro e w3 ⟨pa, pc, rfl, hb, hI⟩
  have HB3 : Hid (Below w.heap.size w w3) := HB2.out.trans (hb.mono HB2.out.size)
  have HP3 : Hid (IntsAt w3 pa P) := hI
  have HL3 : Hid (HrsAt w3 la L) := HL.out.below HB3.out
  have HS3 : Hid (NdsAt w3 a S) := HS.out.below HB3.out
  have l0 := keepC m0 hb
  have l1 := keepC m1 hb
  clear hb m0 m1 hI DL HB1 HB2 hsz
  have O0 : Hid (∀ W : World, W.ownsRow w3.heap.size 61 2 (.slice none 0 0) 0 (scellsEe (downF P 0))) := fun W => World.ownsRow_nil _ _ _ _
  go_wp2_with fail
  go_loopg [11, 12] pl (fun g s11 s12 wr => ∃ (t : Nat) (Q : Int), t ≤ pl ∧ pl - t ≤ g ∧ Hid (Q = (pl : Int) - 1 - t) ∧ s12 = .int .i64 Q ∧ Hid (Below w3.heap.size w3 wr) ∧ Hid (wr.ownsRow w3.heap.size 61 2 s11 t (scellsEe (downF P t))))
  case atStart => exact ⟨0, (pl : Int) - 1, by omega, by omega, (show _ = _ by omega), by go_num, Below.refl _ _, O0.out _⟩
  case round =>
    obtain ⟨t, Q, ht, hg, HQ, rfl, HBr, OWN⟩ := hrel
    clear O0
    obtain ⟨sa, sc, rfl⟩ := stops_form OWN.out
    by_cases hlt : t < pl
    · obtain ⟨y, rfl⟩ : ∃ y : Nat, Q = y := ⟨pl - 1 - t, by have := HQ.out; omega⟩
      have HY : Hid (y = pl - 1 - t) := (by have := HQ.out; omega : y = pl - 1 - t)
      have hyp : y < pl := by have := HY.out; omega
      have hy2 : (y : Int) < (pl : Int) := by omega
      have hy3 : (0 : Int) ≤ (y : Int) := by omega
      obtain ⟨pb, po, ep, pcell'⟩ := HP3.out y (by rw [HPL.out]; exact hyp)
      subst ep
      have pcell := keepC pcell' HBr.out
      have ST : Hid (downF P (t + 1) = downF P t ++ [(P.getD y 0, true)]) := by
        have := down_step (P := P) (t := t) (by rw [HPL.out]; exact hlt)
        rw [HPL.out, ← HY.out] at this
        exact this
      clear pcell'
      generalize P.getD y 0 = Y at *
      have zb := World.block_lt_of_cell? _ _ pcell
      have OWA : Hid (∀ o1 : Obj, (wr.alloc o1).ownsRow w3.heap.size 61 2 (.slice sa t sc) t (scellsEe (downF P t))) := fun o1 => OWN.out.alloc o1
      have NEW : Hid (∀ j u, (scellEe (Y, true))[j]? = some u → (wr.alloc (.cells #[.int .i64 Y, .bool true] 61)).cell? ((⟨wr.heap.size, 0, none⟩ : Addr).add j) = some u) := news2 (x := (Y, true)) (alloc_cell wr _ _ 0 rfl) (alloc_cell wr _ _ 1 rfl)
      have hsr := HBr.out.size
      clear OWN
      go_wp2_with (at_builtin; refine wpList_append_own _ rfl _ _ 59 rfl w3.heap.size 61 i0 (.agg #[.int .i64 0, .bool false]) 2 16 Try.underlying59 hi0 hz0 hz1 hz2 rfl (by decide) (.slice sa t sc) t (scellsEe (downF P t)) rfl (OWA.out _) ⟨wr.heap.size, 0, none⟩ 1 1 (scellEe (Y, true)) rfl rfl ?c1 ?c2 ?c3 ?c4 ?c5 ?_)
      case c1 => exact fun j u h => h
      case c2 => exact scell_one _
      case c3 => unfold maxLen; omega
      case c4 => omega
      case c5 => omega
      intro v2 w4 own4 grow4 _
      have OW4 : Hid (w4.ownsRow w3.heap.size 61 2 v2 (t + 1) (scellsEe (downF P (t + 1)))) := by
        show World.ownsRow _ _ _ _ _ _ _
        rw [ST.out, scells_snocEe]
        exact own4
      have HB4 : Hid (Below w3.heap.size w3 w4) := (HBr.out.trans ((one_belowS wr _).mono HBr.out.size)).grown grow4 (by simp; omega) (fun k hk => ((OWA.out (.cells #[] 0)).lt k hk).1)
      obtain ⟨sa2, sc2, rfl⟩ := stops_form own4
      have HQ2 : Hid (∀ Z : Int, Z = (y : Int) - 1 → Z = (pl : Int) - 1 - ((t + 1 : Nat) : Int)) := fun Z hZ => by have := HY.out; omega
      clear own4 grow4 OWA NEW pcell
      go_wp2_with fail
      go_roundg (pl - (t + 1))
      case measure => omega
      case rel => exact ⟨t + 1, (y : Int) - 1, by omega, by omega, HQ2.out _ rfl, by go_num, HB4, OW4⟩
    · have hte : t = pl := by omega
      subst hte
      have eQ : Q = -1 := by have := HQ.out; omega
      subst eQ
      have OWU : Hid (wr.ownsRow w3.heap.size 61 2 (.slice sa (t + 0) sc) (t + 0) (scellsEe (upW P 0))) := by
        show World.ownsRow _ _ _ _ _ _ _
        rw [upW_zero, HPL.out]
        exact OWN.out
      have HBd : Hid (Below w3.heap.size w3 wr) := HBr
      clear OWN HBr HQ
      go_wp2_with fail
      go_loopg [11, 61] t (fun g s11 s61 wr => ∃ i : Nat, i ≤ t ∧ t - i ≤ g ∧ s61 = .int .i64 i ∧ Hid (Below w3.heap.size w3 wr) ∧ Hid (wr.ownsRow w3.heap.size 61 2 s11 (t + i) (scellsEe (upW P i))))
      case atStart => exact ⟨0, by omega, by omega, rfl, HBd, OWU⟩
      case round =>
        obtain ⟨i, hi, hg2, rfl, HBr, OWN⟩ := hrel
        clear OWU HBd
        obtain ⟨sa, sc, rfl⟩ := stops_form OWN.out
        by_cases hlt2 : i < t
        · have hi2 : (i : Int) < (t : Int) := by omega
          obtain ⟨pb, po, ep, pcell'⟩ := HP3.out i (by rw [HPL.out]; exact hlt2)
          subst ep
          have pcell := keepC pcell' HBr.out
          have ST : Hid (upW P (i + 1) = upW P i ++ [(P.getD i 0, false)]) := upW_step (by rw [HPL.out]; exact hlt2)
          clear pcell'
          generalize P.getD i 0 = Y at *
          have zb := World.block_lt_of_cell? _ _ pcell
          obtain ⟨ti, hti⟩ : ∃ z, t + i = z := ⟨_, rfl⟩
          have HTI : Hid (t + i = ti) := hti
          rw [hti] at OWN ⊢
          have hti2 : ti ≤ 100 := by omega
          clear hti
          have OWA : Hid (∀ o1 : Obj, (wr.alloc o1).ownsRow w3.heap.size 61 2 (.slice sa ti sc) ti (scellsEe (upW P i))) := fun o1 => OWN.out.alloc o1
          have hsr := HBr.out.size
          clear OWN
          go_wp2_with (at_builtin; refine wpList_append_own _ rfl _ _ 59 rfl w3.heap.size 61 i0 (.agg #[.int .i64 0, .bool false]) 2 16 Try.underlying59 hi0 hz0 hz1 hz2 rfl (by decide) (.slice sa ti sc) ti (scellsEe (upW P i)) rfl (OWA.out _) ⟨wr.heap.size, 0, none⟩ 1 1 (scellEe (Y, false)) rfl rfl ?c1 ?c2 ?c3 ?c4 ?c5 ?_)
          case c1 => exact fun j u h => h
          case c2 => exact scell_one _
          case c3 => unfold maxLen; omega
          case c4 => omega
          case c5 => omega
          intro v2 w4 own4 grow4 _
          have OW4 : Hid (w4.ownsRow w3.heap.size 61 2 v2 (t + (i + 1)) (scellsEe (upW P (i + 1)))) := by
            show World.ownsRow _ _ _ _ _ _ _
            rw [ST.out, scells_snocEe, ← Nat.add_assoc, HTI.out]
            exact own4
          have HB4 : Hid (Below w3.heap.size w3 w4) := (HBr.out.trans ((one_belowS wr _).mono HBr.out.size)).grown grow4 (by simp; omega) (fun k hk => ((OWA.out (.cells #[] 0)).lt k hk).1)
          obtain ⟨sa2, sc2, rfl⟩ := stops_form own4
          clear own4 grow4 OWA pcell
          go_wp2_with fail
          go_roundg (t - (i + 1))
          case measure => omega
          case rel => exact ⟨i + 1, by omega, by omega, by go_num, HB4, OW4⟩
        · have hie : i = t := by omega
          subst hie
          have hXl : (spotsF P).length = i + i := by unfold spotsF; simp [HPL.out]
          have eX : upW P i = spotsF P := by have := upW_all P; rwa [HPL.out] at this
          obtain ⟨sa2, sc2, hv, hSP⟩ := sps_own (X := spotsF P) (by have := OWN.out; rw [eX] at this; rw [hXl]; exact this)
          simp only [Value.slice.injEq] at hv
          obtain ⟨rfl, _, rfl⟩ := hv
          have XM : Hid (∀ x ∈ spotsF P, ∃ q : Nat, x.1 = q ∧ q < n) := fun x hx => PM.out _ (spots_mem hx)
          have HSP : Hid _ := hSP
          obtain ⟨w6, rfl⟩ : ∃ w6, w6 = wr := ⟨_, rfl⟩
          have HB6 : Hid (Below w3.heap.size w3 w6) := HBr
          have k0 := keepC l0 HBr.out
          have k1 := keepC l1 HBr.out
          clear hSP OWN HBr eX l0 l1
          obtain ⟨X, hX⟩ : ∃ X, spotsF P = X := ⟨_, rfl⟩
          have HX : Hid (spotsF P = X) := hX
          rw [hX] at hXl XM HSP
          clear hX
          obtain ⟨xl, hxl⟩ : ∃ z, i + i = z := ⟨_, rfl⟩
          rw [hxl] at hXl ⊢
          have hxb : xl ≤ 50 := by omega
          have HXL : Hid (X.length = xl) := hXl
          clear hXl hxl
          have hmm := @run_makeMap Try.prog
          have LS0 : Hid (LoopS w6 (w6.alloc (.map #[] 0)) S k (.slice none 0 0) ((X.take 0).flatMap (hearF L))) := ⟨one_belowS _ _, by simp, (MarksAt.made w6).congrF (fun y => by simp), World.ownsRow_nil _ _ _ _⟩
          have FB : Hid (∀ i, ((X.take i).flatMap (hearF L)).length ≤ 1200) := fun i => by
            have g1 := flat_short L (X.take i)
            have g2 : (X.take i).length ≤ 50 := by have := HXL.out; simp; omega
            have g3 := Nat.mul_le_mul g2 (by rw [HM.out]; exact hL24 : L.length ≤ 24)
            omega
          go_wp2_with fail
          go_loopg [15, 74] xl (fun g s15 s74 wr => ∃ i : Nat, i ≤ xl ∧ xl - i ≤ g ∧ s74 = .int .i64 i ∧ Hid (∀ x ∈ X.take i, stopS L x = false) ∧ Hid (LoopS w6 wr S k s15 ((X.take i).flatMap (hearF L))))
          case atStart => exact ⟨0, by omega, by omega, rfl, (show Hid _ from fun x hx => by simp at hx), LS0⟩
          case round =>
            obtain ⟨i, hi, hg3, rfl, NS, LS⟩ := hrel
            clear LS0 hmm
            obtain ⟨ca, cc, rfl⟩ := LS.out.form
            by_cases hlt3 : i < xl
            · have hi3 : (i : Int) < (xl : Int) := by omega
              have hiX : i < X.length := by rw [HXL.out]; exact hlt3
              obtain ⟨sb, so, es, s0', s1'⟩ := HSP.out i hiX
              subst es
              have s0 := keepC s0' LS.out.b
              have s1 := keepC s1' LS.out.b
              have n0 := keepC k0 LS.out.b
              have n1 := keepC k1 LS.out.b
              have FS : Hid ((X.take (i + 1)).flatMap (hearF L) = (X.take i).flatMap (hearF L) ++ hearF L X[i]) := flat_step hiX
              have TB : Hid (stopS L X[i] = true → toldF L X = (X.take i).flatMap (hearF L) ++ hearF L X[i]) := fun h => told_break hiX NS.out h
              have NS2 : Hid (stopS L X[i] = false → ∀ x ∈ X.take (i + 1), stopS L x = false) := fun h => stop_step hiX NS.out h
              obtain ⟨q, hq, hqn⟩ := XM.out X[i] (List.getElem_mem hiX)
              clear s0' s1' NS
              have FBi := FB.out i
              generalize X[i] = x at *
              obtain ⟨xp, xd⟩ := x
              dsimp only at s0 s1 hq
              subst hq
              generalize (X.take i).flatMap (hearF L) = F at *
              obtain ⟨V, rfl⟩ : ∃ V, V = wr := ⟨_, rfl⟩
              obtain ⟨fl, hfl⟩ : ∃ z, F.length = z := ⟨_, rfl⟩
              have HFL : Hid (F.length = fl) := hfl
              rw [hfl] at FBi ⊢
              have LSV : Hid (∀ o1 : Obj, LoopS w6 (V.alloc o1) S k (.slice ca fl cc) (F ++ hearF (L.take 0) ((q : Int), xd))) := fun o1 => by
                have h := LS.out.below (one_belowS V o1)
                rw [hfl] at h
                simpa [hearF] using h
              have OB : Hid (∀ b, (Value.slice ca fl cc).ownBlock = some b → b ≠ V.heap.size) := fun b hb => by
                have h := LS.out.ow
                rw [hfl] at h
                have := (h.lt b hb).2
                omega
              have qV : w6.heap.size + 1 ≤ V.heap.size := LS.out.sz
              clear hfl LS
              go_wp2_with fail
              go_loopg [15, 19, 80] m (fun g s15 s19 s80 wr => ∃ j : Nat, j ≤ m ∧ m - j ≤ g ∧ s80 = .int .i64 j ∧ s19 = .bool ((hearF (L.take j) ((q : Int), xd)).any Hr.st) ∧ wr.cell? ⟨V.heap.size, 0, none⟩ = some (.int .i64 (q : Int)) ∧ wr.cell? ⟨V.heap.size, 1, none⟩ = some (.bool xd) ∧ Hid (∀ b, s15.ownBlock = some b → b ≠ V.heap.size) ∧ Hid (LoopS w6 wr S k s15 (F ++ hearF (L.take j) ((q : Int), xd))))
              case atStart => exact ⟨0, by omega, by omega, rfl, by simp [hearF], alloc_cell V _ _ 0 rfl, alloc_cell V _ _ 1 rfl, OB, LSV.out _⟩
              case round =>
                obtain ⟨j, hj, hg4, rfl, rfl, v0, v1, OB2, LS⟩ := hrel
                clear LSV OB s0 s1
                obtain ⟨ga, gc, rfl⟩ := LS.out.form
                have q6 : w6.heap.size + 1 ≤ wr.heap.size := LS.out.sz
                by_cases hlt4 : j < m
                · have hj4 : (j : Int) < (m : Int) := by omega
                  have hjL : j < L.length := by rw [HM.out]; exact hlt4
                  obtain ⟨lb, lo, el, y0, y1, y2, y3, y4⟩ := ((HL3.out.below HB6.out).below LS.out.b) j hjL
                  subst el
                  have p0 := keepC k0 LS.out.b
                  have p1 := keepC k1 LS.out.b
                  have hwf := BL.out j hjL
                  have YES : Hid ((hr L j).pl = (q : Int) → (hr L j).dn = xd → hearF (L.take (j + 1)) ((q : Int), xd) = hearF (L.take j) ((q : Int), xd) ++ [hr L j]) := fun h1 h2 => hear_take_yes hjL h1 h2
                  have NO : Hid (((hr L j).pl ≠ (q : Int) ∨ (hr L j).dn ≠ xd) → hearF (L.take (j + 1)) ((q : Int), xd) = hearF (L.take j) ((q : Int), xd)) := fun h => hear_take_no hjL h
                  generalize hr L j = y at *
                  obtain ⟨yp, yd, yo, ys, yi⟩ := y
                  dsimp only at y0 y1 y2 y3 y4 hwf YES NO
                  have hHl : (hearF (L.take j) ((q : Int), xd)).length ≤ 24 := by
                    have h1 : (hearF (L.take j) ((q : Int), xd)).length ≤ (L.take j).length := List.length_filter_le _ _
                    have h2 : (L.take j).length ≤ L.length := by rw [List.length_take]; exact Nat.min_le_right _ _
                    have h3 := HM.out
                    omega
                  obtain ⟨H, hH⟩ : ∃ H, hearF (L.take j) ((q : Int), xd) = H := ⟨_, rfl⟩
                  rw [hH] at YES NO LS OB2 hHl ⊢
                  clear hH
                  obtain ⟨H2, hH2⟩ : ∃ H2, hearF (L.take (j + 1)) ((q : Int), xd) = H2 := ⟨_, rfl⟩
                  have HH2 : Hid (hearF (L.take (j + 1)) ((q : Int), xd) = H2) := hH2
                  rw [hH2] at YES NO
                  clear hH2
                  obtain ⟨last, hlast⟩ : ∃ z, H.any Hr.st = z := ⟨_, rfl⟩
                  have HLAST : Hid (H.any Hr.st = last) := hlast
                  rw [hlast]
                  clear hlast
                  obtain ⟨G, hG⟩ : ∃ G, F ++ H = G := ⟨_, rfl⟩
                  have HG : Hid (F ++ H = G) := hG
                  rw [hG] at LS OB2 ⊢
                  clear hG
                  obtain ⟨gl, hgl⟩ : ∃ z, G.length = z := ⟨_, rfl⟩
                  have HGL : Hid (G.length = gl) := hgl
                  have hglb : gl ≤ 1300 := by rw [← hgl, ← HG.out, List.length_append, HFL.out]; omega
                  rw [hgl] at LS OB2 ⊢
                  clear hgl
                  have zV : V.heap.size < wr.heap.size := World.block_lt_of_cell? _ _ v0
                  by_cases e1 : yp = (q : Int)
                  · by_cases e2 : yd = xd
                    · subst e1
                      subst e2
                      have HY2 : Hid (H2 = H ++ [⟨(q : Int), yd, yo, ys, yi⟩]) := YES.out rfl rfl
                      clear YES NO
                      obtain ⟨T, hT⟩ : ∃ z, targetF S k q = z := ⟨_, rfl⟩
                      have dt := fun W hW => DT.out q W hqn hW
                      rw [hT] at dt
                      have DTq : Hid _ := dt
                      have CALF : Hid (callH S k ⟨(q : Int), yd, yo, ys, yi⟩ = ⟨yi, (q : Int), T, phaseF T (q : Int) yd⟩) := by show _ = _; unfold callH callF; simp [hT]
                      have HSr : Hid (NdsAt wr a S) := (HS3.out.below HB6.out).below LS.out.b
                      clear dt hT
                      obtain ⟨W8, hW8⟩ : ∃ W8, wr.alloc (.cells #[.int .i64 (q : Int), .bool yd, .bool yo, .bool ys, .int .i64 yi] 39) = W8 := ⟨_, rfl⟩
                      have hb8 : Below wr.heap.size wr W8 := by rw [← hW8]; exact one_belowS _ _
                      have hs8 : W8.heap.size = wr.heap.size + 1 := by rw [← hW8]; simp
                      have c4 : W8.cell? ⟨wr.heap.size, 4, none⟩ = some (.int .i64 yi) := by rw [← hW8]; exact alloc_cell wr _ _ 4 rfl
                      have c3 : W8.cell? ⟨wr.heap.size, 3, none⟩ = some (.bool ys) := by rw [← hW8]; exact alloc_cell wr _ _ 3 rfl
                      have a0 : W8.cell? ⟨wr.heap.size, 0, none⟩ = some (.int .i64 (q : Int)) := by rw [← hW8]; exact alloc_cell wr _ _ 0 rfl
                      have a1 : W8.cell? ⟨wr.heap.size, 1, none⟩ = some (.bool yd) := by rw [← hW8]; exact alloc_cell wr _ _ 1 rfl
                      have u0 := keepC v0 hb8
                      have u1 := keepC v1 hb8
                      have r0 := keepC p0 hb8
                      have r1 := keepC p1 hb8
                      have LS8 : Hid (LoopS w6 W8 S k (.slice ga gl gc) G) := LS.out.below hb8
                      have HS8 : Hid (NdsAt W8 a S) := HSr.out.below hb8
                      have OBw : Hid (∀ b, (Value.slice ga gl gc).ownBlock = some b → b < wr.heap.size) := fun b hb => by
                        have h := LS.out.ow
                        rw [HGL.out] at h
                        exact (h.lt b hb).2
                      have HS8z : Hid (W8.heap.size = wr.heap.size + 1) := hs8
                      have x0 : wr.heap.size < W8.heap.size := by omega
                      have x1 : V.heap.size < W8.heap.size := by omega
                      have x2 := World.block_lt_of_cell? _ _ r0
                      have x3 := World.block_lt_of_cell? _ _ r1
                      have CALL : Hid (∀ w7, Below W8.heap.size W8 w7 → w7.cell? ⟨wr.heap.size, 4, none⟩ = some (.int .i64 yi) ∧ w7.cell? ⟨wr.heap.size, 3, none⟩ = some (.bool ys) ∧ w7.cell? ⟨V.heap.size, 0, none⟩ = some (.int .i64 (q : Int)) ∧ w7.cell? ⟨V.heap.size, 1, none⟩ = some (.bool yd) ∧ w7.cell? ⟨w.heap.size, 0, none⟩ = some (.slice a n c) ∧ w7.cell? ⟨w.heap.size + 1, 0, none⟩ = some (.int .i64 (k : Int)) ∧ Hid (LoopS w6 w7 S k (.slice ga gl gc) G) ∧ W8.heap.size ≤ w7.heap.size) := fun w7 hb =>
                        ⟨keepC c4 hb, keepC c3 hb, keepC u0 hb, keepC u1 hb, keepC r0 hb, keepC r1 hb, LS8.out.below hb, hb.size⟩
                      have NEW : Hid (∀ w7, Below (W8.alloc (.cells #[.int .i64 0, .int .i64 0, .int .i64 0, .int .i64 0] 36)).drew.heap.size (W8.alloc (.cells #[.int .i64 0, .int .i64 0, .int .i64 0, .int .i64 0] 36)).drew w7 → Hid (w7.heap[W8.heap.size]? = some (.cells #[.int .i64 0, .int .i64 0, .int .i64 0, .int .i64 0] 36 (0, 0))) ∧ W8.heap.size < w7.heap.size) := fun w7 hb => by
                        have hs := hb.size
                        have e1 : (W8.alloc (.cells #[.int .i64 0, .int .i64 0, .int .i64 0, .int .i64 0] 36)).drew.heap.size = W8.heap.size + 1 := by show (W8.alloc _).heap.size = _; simp
                        exact ⟨(hb.block _ (by omega)).trans (heap_alloc_new W8 _), by omega⟩
                      have ne4 := World.new_ne W8 ⟨wr.heap.size, 4, none⟩ c4
                      have ne0 := World.new_ne W8 ⟨w.heap.size, 0, none⟩ r0
                      have ne1 := World.new_ne W8 ⟨w.heap.size + 1, 0, none⟩ r1
                      have neV := World.new_ne W8 ⟨V.heap.size, 0, none⟩ u0
                      go_wp2_with fail
                      try rw [hW8]
                      clear hW8 hb8 hs8 v0 v1 p0 p1 y0 y1 y2 y3 y4 a0 a1
                      go_region_held3 (fun w'' => w''.cell? ⟨wr.heap.size, 4, none⟩ = some (.int .i64 yi) ∧ w''.cell? ⟨V.heap.size, 0, none⟩ = some (.int .i64 (q : Int)) ∧ w''.cell? ⟨w.heap.size, 0, none⟩ = some (.slice a n c) ∧ w''.cell? ⟨w.heap.size + 1, 0, none⟩ = some (.int .i64 (k : Int))) (go_keep) (first | (go_at_call 21; refine (Calls.mono (DTq.out (W8.alloc (.cells #[.int .i64 0, .int .i64 0, .int .i64 0, .int .i64 0] 36)).drew ?nd) ?_); (case nd => exact HS8.out.below ((one_belowS W8 _).drew)); rintro e w7 ⟨rfl, hb⟩; obtain ⟨d4, d3, g0, g1, g2, g3, LS7, hs7⟩ := CALL.out w7 (((one_belowS W8 _).drew).trans (hb.mono (by show W8.heap.size ≤ (W8.alloc _).heap.size; simp))); obtain ⟨P9, hs9⟩ := NEW.out w7 hb; obtain ⟨z0, z1, z2, z3, fz⟩ := box4_cells P9.out; have f0 := fz 0; have f1 := fz 1; have f2 := fz 2; have f3 := fz 3; clear hb fz) | (go_at_call 21; refine (Calls.mono (DTq.out W8.drew ?nd) ?_); (case nd => exact HS8.out.below ((Below.refl _ _).drew)); rintro e w7 ⟨rfl, hb⟩; obtain ⟨d4, d3, g0, g1, g2, g3, LS7, hs7⟩ := CALL.out w7 (((Below.refl _ _).drew).trans hb); have nx4 := World.new_ne w7 _ d4; have nx0 := World.new_ne w7 _ g2; have nx1 := World.new_ne w7 _ g3; have nxV := World.new_ne w7 _ g0; clear hb))
                      rotate_left
                      · clear CALL NEW DTq HS8 c4 c3 u0 u1 r0 r1 z0 z1 z2 z3 f0 f1 f2 f3
                        obtain ⟨Wc, hWc⟩ : ∃ Wc, (((w7.setCell ⟨W8.heap.size, 0, none⟩ (.int .i64 yi)).setCell ⟨W8.heap.size, 1, none⟩ (.int .i64 (q : Int))).setCell ⟨W8.heap.size, 2, none⟩ (.int .i64 T)).setCell ⟨W8.heap.size, 3, none⟩ (.int .i64 3) = Wc := ⟨_, rfl⟩
                        have hx : Wc.heap[W8.heap.size]? = some (.cells #[.int .i64 yi, .int .i64 (q : Int), .int .i64 T, .int .i64 3] 36 (0, 0)) := by rw [← hWc]; exact set4_all _ _ _ _ P9.out
                        have hbV : Below W8.heap.size w7 Wc := by rw [← hWc]; exact set4_below _ _ _ _ (Below.refl _ _) (Nat.le_refl _)
                        have OBc : Hid (∀ b, (Value.slice ga gl gc).ownBlock = some b → b ≠ W8.heap.size) := fun b hb => by have := OBw.out b hb; omega
                        have hcw : w6.heap.size < W8.heap.size := by omega
                        have LSc : Hid (LoopS w6 Wc S k (.slice ga gl gc) G) := by rw [← hWc]; exact (((LS7.out.set (cb := W8.heap.size) (o := 0) _ hcw OBc.out).set (cb := W8.heap.size) (o := 1) _ hcw OBc.out).set (cb := W8.heap.size) (o := 2) _ hcw OBc.out).set (cb := W8.heap.size) (o := 3) _ hcw OBc.out
                        have e4 := (hbV.cell (p := ⟨wr.heap.size, 4, none⟩) x0).trans d4
                        have e3 := (hbV.cell (p := ⟨wr.heap.size, 3, none⟩) x0).trans d3
                        have h0 := (hbV.cell (p := ⟨V.heap.size, 0, none⟩) x1).trans g0
                        have h1 := (hbV.cell (p := ⟨V.heap.size, 1, none⟩) x1).trans g1
                        have s1 : W8.heap.size < Wc.heap.size := Nat.lt_of_lt_of_le hs9 hbV.size
                        have s2 : wr.heap.size < Wc.heap.size := by omega
                        have s3 : V.heap.size < Wc.heap.size := by omega
                        have n1 : wr.heap.size ≠ W8.heap.size := by omega
                        have n2 : V.heap.size ≠ W8.heap.size := by omega
                        rw [hWc]
                        clear hWc hbV d4 d3 g0 g1 g2 g3 P9 LS7 hs9
                        obtain ⟨r0', r1', r2', r3', fz⟩ := box4_cells hx
                        have f3 := fz 3
                        clear fz
                        cases yd with
                        | true =>
                          by_cases hT : T = (q : Int)
                          · have hd : decide (T = (q : Int)) = true := decide_eq_true hT
                            have hd2 : (T == (q : Int)) = true := by simp [hT]
                            have CF : Hid (callH S k ⟨(q : Int), true, yo, ys, yi⟩ = ⟨yi, (q : Int), T, 2⟩) := by show _ = _; rw [CALF.out]; unfold phaseF; rw [if_pos hT]
                            have LSd : Hid (LoopS w6 ((Wc.setCell ⟨W8.heap.size, 3, none⟩ (.int .i64 1)).setCell ⟨W8.heap.size, 3, none⟩ (.int .i64 2)) S k (.slice ga gl gc) G) := ((LSc.out.set (cb := W8.heap.size) (o := 3) (.int .i64 1) hcw OBc.out).set (cb := W8.heap.size) (o := 3) (.int .i64 2) hcw OBc.out)
                            have KB : Hid (∀ b, b ≠ W8.heap.size → ((Wc.setCell ⟨W8.heap.size, 3, none⟩ (.int .i64 1)).setCell ⟨W8.heap.size, 3, none⟩ (.int .i64 2)).heap[b]? = Wc.heap[b]?) := fun b hb => (Below.heap_setCell _ _ _ _ hb).trans (Below.heap_setCell _ _ _ _ hb)
                            have SZ : Hid (((Wc.setCell ⟨W8.heap.size, 3, none⟩ (.int .i64 1)).setCell ⟨W8.heap.size, 3, none⟩ (.int .i64 2)).heap.size = Wc.heap.size) := by show _ = _; simp [World.setCell]
                            clear hT
                            have OWA : Hid ((((Wc.setCell ⟨W8.heap.size, 3, none⟩ (.int .i64 1)).setCell ⟨W8.heap.size, 3, none⟩ (.int .i64 2)).alloc (.cells #[.int .i64 yi, .int .i64 (q : Int), .int .i64 T, .int .i64 2] 36)).ownsRow (w6.heap.size + 1) 36 4 (.slice ga gl gc) gl (kcells (G.map (callH S k)))) := by have h := (LSd.out.below (one_belowS _ (.cells #[.int .i64 yi, .int .i64 (q : Int), .int .i64 T, .int .i64 2] 36))).ow; rw [HGL.out] at h; exact h
                            cases last with
                            | true =>
                              go_wp2_with (at_builtin; refine wpList_append_own_at _ rfl _ _ 28 rfl (w6.heap.size + 1) 36 j0 (.agg #[.int .i64 0, .int .i64 0, .int .i64 0, .int .i64 0]) 4 32 Try.underlying28 hj0 jz0 jz1 jz2 rfl (by decide) (.slice ga gl gc) gl (kcells (G.map (callH S k))) rfl OWA.out ⟨Wc.heap.size, 0, none⟩ 1 1 (kcell ⟨yi, (q : Int), T, 2⟩) rfl rfl ?c1 ?c2 ?c3 ?c4 ?c5 ?_)
                              case c1 => first | exact fun j u h => h | (have h := news4 (x := ⟨yi, (q : Int), T, 2⟩) (alloc_cell ((Wc.setCell ⟨W8.heap.size, 3, none⟩ (.int .i64 1)).setCell ⟨W8.heap.size, 3, none⟩ (.int .i64 2)) #[.int .i64 yi, .int .i64 (q : Int), .int .i64 T, .int .i64 2] 36 0 rfl) (alloc_cell ((Wc.setCell ⟨W8.heap.size, 3, none⟩ (.int .i64 1)).setCell ⟨W8.heap.size, 3, none⟩ (.int .i64 2)) #[.int .i64 yi, .int .i64 (q : Int), .int .i64 T, .int .i64 2] 36 1 rfl) (alloc_cell ((Wc.setCell ⟨W8.heap.size, 3, none⟩ (.int .i64 1)).setCell ⟨W8.heap.size, 3, none⟩ (.int .i64 2)) #[.int .i64 yi, .int .i64 (q : Int), .int .i64 T, .int .i64 2] 36 2 rfl) (alloc_cell ((Wc.setCell ⟨W8.heap.size, 3, none⟩ (.int .i64 1)).setCell ⟨W8.heap.size, 3, none⟩ (.int .i64 2)) #[.int .i64 yi, .int .i64 (q : Int), .int .i64 T, .int .i64 2] 36 3 rfl); rw [SZ.out] at h; exact h)
                              case c2 => exact kcell_one _
                              case c3 => unfold maxLen; omega
                              case c4 => omega
                              case c5 => exact (LSd.out.below (one_belowS _ _)).sz
                              intro v2 w9 own9 grow9 _ hat9
                              have K9 : Hid (∀ b, b ≠ W8.heap.size → b < Wc.heap.size → (∀ b', (Value.slice ga gl gc).ownBlock = some b' → b' ≠ b) → w9.heap[b]? = Wc.heap[b]?) := fun b h1 h2 h3 => (grow9.block b (by have := SZ.out; simp; omega) (fun e => h3 b e.symm rfl)).trans ((Below.heap_alloc _ _ _ (by have := SZ.out; omega)).trans (KB.out b h1))
                              have LSa : Hid (LoopS w6 (((Wc.setCell ⟨W8.heap.size, 3, none⟩ (.int .i64 1)).setCell ⟨W8.heap.size, 3, none⟩ (.int .i64 2)).alloc (.cells #[.int .i64 yi, .int .i64 (q : Int), .int .i64 T, .int .i64 2] 36)) S k (.slice ga gl gc) G) := LSd.out.below (one_belowS _ _)
                              have mk9 : MarksAt w9 w6.heap.size gl (fun y => decide (y ∈ G.map Hr.id)) := by have h := LSa.out.mp.kept (grow9.block _ LSa.out.mp.lt (fun e => by have h2 := (LSa.out.ow.lt _ e.symm).1; omega)); rw [HGL.out] at h; exact h
                              obtain ⟨w10, hput, mk10, gr10⟩ := mk9.put (t := 62) Try.underlying62 (by unfold maxLen; omega) (k := yi) hwf true
                              have LSn : Hid (LoopS w6 w10 S k v2 (G ++ [⟨(q : Int), true, yo, ys, yi⟩])) := by refine LoopS.more LSa.out ?_ grow9 ?_ gr10; (· rw [CF.out, HGL.out]; exact own9); (· rw [HGL.out]; exact mk10)
                              have j4 : w9.cell? ⟨wr.heap.size, 4, none⟩ = some (.int .i64 yi) := (cell_keptF (K9.out _ n1 s2 (fun b hb => by have := OBw.out b hb; omega))).trans e4
                              have j3 : w10.cell? ⟨wr.heap.size, 3, none⟩ = some (.bool ys) := gr10.cell (a := ⟨wr.heap.size, 3, none⟩) ((cell_keptF (K9.out _ n1 s2 (fun b hb => by have := OBw.out b hb; omega))).trans e3) (by intro e; have e2 : wr.heap.size = w6.heap.size := Option.some.inj e; omega)
                              have i0' : w10.cell? ⟨V.heap.size, 0, none⟩ = some (.int .i64 (q : Int)) := gr10.cell (a := ⟨V.heap.size, 0, none⟩) ((cell_keptF (K9.out _ n2 s3 (fun b hb => OB2.out b hb))).trans h0) (by intro e; have e2 : V.heap.size = w6.heap.size := Option.some.inj e; omega)
                              have i1' : w10.cell? ⟨V.heap.size, 1, none⟩ = some (.bool true) := gr10.cell (a := ⟨V.heap.size, 1, none⟩) ((cell_keptF (K9.out _ n2 s3 (fun b hb => OB2.out b hb))).trans h1) (by intro e; have e2 : V.heap.size = w6.heap.size := Option.some.inj e; omega)
                              have OBn : Hid (∀ b, v2.ownBlock = some b → b ≠ V.heap.size) := fun b hb => by
                                rcases hat9 with h | h
                                · exact OB2.out b (h ▸ hb)
                                · rw [h] at hb; have e2 : _ = b := Option.some.inj hb; have := SZ.out; first | omega | (simp only [World.size_alloc] at e2; omega)
                              obtain ⟨va2, vc2, hv2⟩ : ∃ va vc, v2 = .slice va (gl + 1) vc := by
                                rcases own9.2 with ⟨e, e0⟩ | ⟨g5, cap5, cur5, e, _⟩
                                · exact ⟨none, 0, by rw [e, e0]⟩
                                · exact ⟨_, cap5, e⟩
                              subst hv2
                              clear own9 grow9 hat9 mk9 mk10 gr10 K9 LSa OWA LSd KB r0' r1' r2' r3' f3 hx
                              go_wp2_with fail
                              go_roundg (m - (j + 1))
                              case measure => omega
                              case rel => exact ⟨j + 1, by omega, by omega, by go_num, by rw [HH2.out, HY2.out, List.any_append, HLAST.out]; simp, i0', i1', OBn, (by rw [HH2.out, HY2.out, ← List.append_assoc, HG.out]; exact LSn.out)⟩
                            | false =>
                              go_wp2_with (at_builtin; refine wpList_append_own_at _ rfl _ _ 28 rfl (w6.heap.size + 1) 36 j0 (.agg #[.int .i64 0, .int .i64 0, .int .i64 0, .int .i64 0]) 4 32 Try.underlying28 hj0 jz0 jz1 jz2 rfl (by decide) (.slice ga gl gc) gl (kcells (G.map (callH S k))) rfl OWA.out ⟨Wc.heap.size, 0, none⟩ 1 1 (kcell ⟨yi, (q : Int), T, 2⟩) rfl rfl ?c1 ?c2 ?c3 ?c4 ?c5 ?_)
                              case c1 => first | exact fun j u h => h | (have h := news4 (x := ⟨yi, (q : Int), T, 2⟩) (alloc_cell ((Wc.setCell ⟨W8.heap.size, 3, none⟩ (.int .i64 1)).setCell ⟨W8.heap.size, 3, none⟩ (.int .i64 2)) #[.int .i64 yi, .int .i64 (q : Int), .int .i64 T, .int .i64 2] 36 0 rfl) (alloc_cell ((Wc.setCell ⟨W8.heap.size, 3, none⟩ (.int .i64 1)).setCell ⟨W8.heap.size, 3, none⟩ (.int .i64 2)) #[.int .i64 yi, .int .i64 (q : Int), .int .i64 T, .int .i64 2] 36 1 rfl) (alloc_cell ((Wc.setCell ⟨W8.heap.size, 3, none⟩ (.int .i64 1)).setCell ⟨W8.heap.size, 3, none⟩ (.int .i64 2)) #[.int .i64 yi, .int .i64 (q : Int), .int .i64 T, .int .i64 2] 36 2 rfl) (alloc_cell ((Wc.setCell ⟨W8.heap.size, 3, none⟩ (.int .i64 1)).setCell ⟨W8.heap.size, 3, none⟩ (.int .i64 2)) #[.int .i64 yi, .int .i64 (q : Int), .int .i64 T, .int .i64 2] 36 3 rfl); rw [SZ.out] at h; exact h)
                              case c2 => exact kcell_one _
                              case c3 => unfold maxLen; omega
                              case c4 => omega
                              case c5 => exact (LSd.out.below (one_belowS _ _)).sz
                              intro v2 w9 own9 grow9 _ hat9
                              have K9 : Hid (∀ b, b ≠ W8.heap.size → b < Wc.heap.size → (∀ b', (Value.slice ga gl gc).ownBlock = some b' → b' ≠ b) → w9.heap[b]? = Wc.heap[b]?) := fun b h1 h2 h3 => (grow9.block b (by have := SZ.out; simp; omega) (fun e => h3 b e.symm rfl)).trans ((Below.heap_alloc _ _ _ (by have := SZ.out; omega)).trans (KB.out b h1))
                              have LSa : Hid (LoopS w6 (((Wc.setCell ⟨W8.heap.size, 3, none⟩ (.int .i64 1)).setCell ⟨W8.heap.size, 3, none⟩ (.int .i64 2)).alloc (.cells #[.int .i64 yi, .int .i64 (q : Int), .int .i64 T, .int .i64 2] 36)) S k (.slice ga gl gc) G) := LSd.out.below (one_belowS _ _)
                              have mk9 : MarksAt w9 w6.heap.size gl (fun y => decide (y ∈ G.map Hr.id)) := by have h := LSa.out.mp.kept (grow9.block _ LSa.out.mp.lt (fun e => by have h2 := (LSa.out.ow.lt _ e.symm).1; omega)); rw [HGL.out] at h; exact h
                              obtain ⟨w10, hput, mk10, gr10⟩ := mk9.put (t := 62) Try.underlying62 (by unfold maxLen; omega) (k := yi) hwf true
                              have LSn : Hid (LoopS w6 w10 S k v2 (G ++ [⟨(q : Int), true, yo, ys, yi⟩])) := by refine LoopS.more LSa.out ?_ grow9 ?_ gr10; (· rw [CF.out, HGL.out]; exact own9); (· rw [HGL.out]; exact mk10)
                              have j4 : w9.cell? ⟨wr.heap.size, 4, none⟩ = some (.int .i64 yi) := (cell_keptF (K9.out _ n1 s2 (fun b hb => by have := OBw.out b hb; omega))).trans e4
                              have j3 : w10.cell? ⟨wr.heap.size, 3, none⟩ = some (.bool ys) := gr10.cell (a := ⟨wr.heap.size, 3, none⟩) ((cell_keptF (K9.out _ n1 s2 (fun b hb => by have := OBw.out b hb; omega))).trans e3) (by intro e; have e2 : wr.heap.size = w6.heap.size := Option.some.inj e; omega)
                              have i0' : w10.cell? ⟨V.heap.size, 0, none⟩ = some (.int .i64 (q : Int)) := gr10.cell (a := ⟨V.heap.size, 0, none⟩) ((cell_keptF (K9.out _ n2 s3 (fun b hb => OB2.out b hb))).trans h0) (by intro e; have e2 : V.heap.size = w6.heap.size := Option.some.inj e; omega)
                              have i1' : w10.cell? ⟨V.heap.size, 1, none⟩ = some (.bool true) := gr10.cell (a := ⟨V.heap.size, 1, none⟩) ((cell_keptF (K9.out _ n2 s3 (fun b hb => OB2.out b hb))).trans h1) (by intro e; have e2 : V.heap.size = w6.heap.size := Option.some.inj e; omega)
                              have OBn : Hid (∀ b, v2.ownBlock = some b → b ≠ V.heap.size) := fun b hb => by
                                rcases hat9 with h | h
                                · exact OB2.out b (h ▸ hb)
                                · rw [h] at hb; have e2 : _ = b := Option.some.inj hb; have := SZ.out; first | omega | (simp only [World.size_alloc] at e2; omega)
                              obtain ⟨va2, vc2, hv2⟩ : ∃ va vc, v2 = .slice va (gl + 1) vc := by
                                rcases own9.2 with ⟨e, e0⟩ | ⟨g5, cap5, cur5, e, _⟩
                                · exact ⟨none, 0, by rw [e, e0]⟩
                                · exact ⟨_, cap5, e⟩
                              subst hv2
                              clear own9 grow9 hat9 mk9 mk10 gr10 K9 LSa OWA LSd KB r0' r1' r2' r3' f3 hx
                              go_wp2_with fail
                              go_roundg (m - (j + 1))
                              case measure => omega
                              case rel => exact ⟨j + 1, by omega, by omega, by go_num, by rw [HH2.out, HY2.out, List.any_append, HLAST.out]; simp, i0', i1', OBn, (by rw [HH2.out, HY2.out, ← List.append_assoc, HG.out]; exact LSn.out)⟩
                          · have hd : decide (T = (q : Int)) = false := decide_eq_false hT
                            have hd2 : (T == (q : Int)) = false := by simp [hT]
                            have CF : Hid (callH S k ⟨(q : Int), true, yo, ys, yi⟩ = ⟨yi, (q : Int), T, 1⟩) := by show _ = _; rw [CALF.out]; unfold phaseF; rw [if_neg hT]; rfl
                            have LSd : Hid (LoopS w6 (Wc.setCell ⟨W8.heap.size, 3, none⟩ (.int .i64 1)) S k (.slice ga gl gc) G) := (LSc.out.set (cb := W8.heap.size) (o := 3) (.int .i64 1) hcw OBc.out)
                            have KB : Hid (∀ b, b ≠ W8.heap.size → (Wc.setCell ⟨W8.heap.size, 3, none⟩ (.int .i64 1)).heap[b]? = Wc.heap[b]?) := fun b hb => Below.heap_setCell _ _ _ _ hb
                            have SZ : Hid ((Wc.setCell ⟨W8.heap.size, 3, none⟩ (.int .i64 1)).heap.size = Wc.heap.size) := by show _ = _; simp [World.setCell]
                            clear hT
                            have OWA : Hid (((Wc.setCell ⟨W8.heap.size, 3, none⟩ (.int .i64 1)).alloc (.cells #[.int .i64 yi, .int .i64 (q : Int), .int .i64 T, .int .i64 1] 36)).ownsRow (w6.heap.size + 1) 36 4 (.slice ga gl gc) gl (kcells (G.map (callH S k)))) := by have h := (LSd.out.below (one_belowS _ (.cells #[.int .i64 yi, .int .i64 (q : Int), .int .i64 T, .int .i64 1] 36))).ow; rw [HGL.out] at h; exact h
                            cases last with
                            | true =>
                              go_wp2_with (at_builtin; refine wpList_append_own_at _ rfl _ _ 28 rfl (w6.heap.size + 1) 36 j0 (.agg #[.int .i64 0, .int .i64 0, .int .i64 0, .int .i64 0]) 4 32 Try.underlying28 hj0 jz0 jz1 jz2 rfl (by decide) (.slice ga gl gc) gl (kcells (G.map (callH S k))) rfl OWA.out ⟨Wc.heap.size, 0, none⟩ 1 1 (kcell ⟨yi, (q : Int), T, 1⟩) rfl rfl ?c1 ?c2 ?c3 ?c4 ?c5 ?_)
                              case c1 => first | exact fun j u h => h | (have h := news4 (x := ⟨yi, (q : Int), T, 1⟩) (alloc_cell (Wc.setCell ⟨W8.heap.size, 3, none⟩ (.int .i64 1)) #[.int .i64 yi, .int .i64 (q : Int), .int .i64 T, .int .i64 1] 36 0 rfl) (alloc_cell (Wc.setCell ⟨W8.heap.size, 3, none⟩ (.int .i64 1)) #[.int .i64 yi, .int .i64 (q : Int), .int .i64 T, .int .i64 1] 36 1 rfl) (alloc_cell (Wc.setCell ⟨W8.heap.size, 3, none⟩ (.int .i64 1)) #[.int .i64 yi, .int .i64 (q : Int), .int .i64 T, .int .i64 1] 36 2 rfl) (alloc_cell (Wc.setCell ⟨W8.heap.size, 3, none⟩ (.int .i64 1)) #[.int .i64 yi, .int .i64 (q : Int), .int .i64 T, .int .i64 1] 36 3 rfl); rw [SZ.out] at h; exact h)
                              case c2 => exact kcell_one _
                              case c3 => unfold maxLen; omega
                              case c4 => omega
                              case c5 => exact (LSd.out.below (one_belowS _ _)).sz
                              intro v2 w9 own9 grow9 _ hat9
                              have K9 : Hid (∀ b, b ≠ W8.heap.size → b < Wc.heap.size → (∀ b', (Value.slice ga gl gc).ownBlock = some b' → b' ≠ b) → w9.heap[b]? = Wc.heap[b]?) := fun b h1 h2 h3 => (grow9.block b (by have := SZ.out; simp; omega) (fun e => h3 b e.symm rfl)).trans ((Below.heap_alloc _ _ _ (by have := SZ.out; omega)).trans (KB.out b h1))
                              have LSa : Hid (LoopS w6 ((Wc.setCell ⟨W8.heap.size, 3, none⟩ (.int .i64 1)).alloc (.cells #[.int .i64 yi, .int .i64 (q : Int), .int .i64 T, .int .i64 1] 36)) S k (.slice ga gl gc) G) := LSd.out.below (one_belowS _ _)
                              have mk9 : MarksAt w9 w6.heap.size gl (fun y => decide (y ∈ G.map Hr.id)) := by have h := LSa.out.mp.kept (grow9.block _ LSa.out.mp.lt (fun e => by have h2 := (LSa.out.ow.lt _ e.symm).1; omega)); rw [HGL.out] at h; exact h
                              obtain ⟨w10, hput, mk10, gr10⟩ := mk9.put (t := 62) Try.underlying62 (by unfold maxLen; omega) (k := yi) hwf true
                              have LSn : Hid (LoopS w6 w10 S k v2 (G ++ [⟨(q : Int), true, yo, ys, yi⟩])) := by refine LoopS.more LSa.out ?_ grow9 ?_ gr10; (· rw [CF.out, HGL.out]; exact own9); (· rw [HGL.out]; exact mk10)
                              have j4 : w9.cell? ⟨wr.heap.size, 4, none⟩ = some (.int .i64 yi) := (cell_keptF (K9.out _ n1 s2 (fun b hb => by have := OBw.out b hb; omega))).trans e4
                              have j3 : w10.cell? ⟨wr.heap.size, 3, none⟩ = some (.bool ys) := gr10.cell (a := ⟨wr.heap.size, 3, none⟩) ((cell_keptF (K9.out _ n1 s2 (fun b hb => by have := OBw.out b hb; omega))).trans e3) (by intro e; have e2 : wr.heap.size = w6.heap.size := Option.some.inj e; omega)
                              have i0' : w10.cell? ⟨V.heap.size, 0, none⟩ = some (.int .i64 (q : Int)) := gr10.cell (a := ⟨V.heap.size, 0, none⟩) ((cell_keptF (K9.out _ n2 s3 (fun b hb => OB2.out b hb))).trans h0) (by intro e; have e2 : V.heap.size = w6.heap.size := Option.some.inj e; omega)
                              have i1' : w10.cell? ⟨V.heap.size, 1, none⟩ = some (.bool true) := gr10.cell (a := ⟨V.heap.size, 1, none⟩) ((cell_keptF (K9.out _ n2 s3 (fun b hb => OB2.out b hb))).trans h1) (by intro e; have e2 : V.heap.size = w6.heap.size := Option.some.inj e; omega)
                              have OBn : Hid (∀ b, v2.ownBlock = some b → b ≠ V.heap.size) := fun b hb => by
                                rcases hat9 with h | h
                                · exact OB2.out b (h ▸ hb)
                                · rw [h] at hb; have e2 : _ = b := Option.some.inj hb; have := SZ.out; first | omega | (simp only [World.size_alloc] at e2; omega)
                              obtain ⟨va2, vc2, hv2⟩ : ∃ va vc, v2 = .slice va (gl + 1) vc := by
                                rcases own9.2 with ⟨e, e0⟩ | ⟨g5, cap5, cur5, e, _⟩
                                · exact ⟨none, 0, by rw [e, e0]⟩
                                · exact ⟨_, cap5, e⟩
                              subst hv2
                              clear own9 grow9 hat9 mk9 mk10 gr10 K9 LSa OWA LSd KB r0' r1' r2' r3' f3 hx
                              go_wp2_with fail
                              go_roundg (m - (j + 1))
                              case measure => omega
                              case rel => exact ⟨j + 1, by omega, by omega, by go_num, by rw [HH2.out, HY2.out, List.any_append, HLAST.out]; simp, i0', i1', OBn, (by rw [HH2.out, HY2.out, ← List.append_assoc, HG.out]; exact LSn.out)⟩
                            | false =>
                              go_wp2_with (at_builtin; refine wpList_append_own_at _ rfl _ _ 28 rfl (w6.heap.size + 1) 36 j0 (.agg #[.int .i64 0, .int .i64 0, .int .i64 0, .int .i64 0]) 4 32 Try.underlying28 hj0 jz0 jz1 jz2 rfl (by decide) (.slice ga gl gc) gl (kcells (G.map (callH S k))) rfl OWA.out ⟨Wc.heap.size, 0, none⟩ 1 1 (kcell ⟨yi, (q : Int), T, 1⟩) rfl rfl ?c1 ?c2 ?c3 ?c4 ?c5 ?_)
                              case c1 => first | exact fun j u h => h | (have h := news4 (x := ⟨yi, (q : Int), T, 1⟩) (alloc_cell (Wc.setCell ⟨W8.heap.size, 3, none⟩ (.int .i64 1)) #[.int .i64 yi, .int .i64 (q : Int), .int .i64 T, .int .i64 1] 36 0 rfl) (alloc_cell (Wc.setCell ⟨W8.heap.size, 3, none⟩ (.int .i64 1)) #[.int .i64 yi, .int .i64 (q : Int), .int .i64 T, .int .i64 1] 36 1 rfl) (alloc_cell (Wc.setCell ⟨W8.heap.size, 3, none⟩ (.int .i64 1)) #[.int .i64 yi, .int .i64 (q : Int), .int .i64 T, .int .i64 1] 36 2 rfl) (alloc_cell (Wc.setCell ⟨W8.heap.size, 3, none⟩ (.int .i64 1)) #[.int .i64 yi, .int .i64 (q : Int), .int .i64 T, .int .i64 1] 36 3 rfl); rw [SZ.out] at h; exact h)
                              case c2 => exact kcell_one _
                              case c3 => unfold maxLen; omega
                              case c4 => omega
                              case c5 => exact (LSd.out.below (one_belowS _ _)).sz
                              intro v2 w9 own9 grow9 _ hat9
                              have K9 : Hid (∀ b, b ≠ W8.heap.size → b < Wc.heap.size → (∀ b', (Value.slice ga gl gc).ownBlock = some b' → b' ≠ b) → w9.heap[b]? = Wc.heap[b]?) := fun b h1 h2 h3 => (grow9.block b (by have := SZ.out; simp; omega) (fun e => h3 b e.symm rfl)).trans ((Below.heap_alloc _ _ _ (by have := SZ.out; omega)).trans (KB.out b h1))
                              have LSa : Hid (LoopS w6 ((Wc.setCell ⟨W8.heap.size, 3, none⟩ (.int .i64 1)).alloc (.cells #[.int .i64 yi, .int .i64 (q : Int), .int .i64 T, .int .i64 1] 36)) S k (.slice ga gl gc) G) := LSd.out.below (one_belowS _ _)
                              have mk9 : MarksAt w9 w6.heap.size gl (fun y => decide (y ∈ G.map Hr.id)) := by have h := LSa.out.mp.kept (grow9.block _ LSa.out.mp.lt (fun e => by have h2 := (LSa.out.ow.lt _ e.symm).1; omega)); rw [HGL.out] at h; exact h
                              obtain ⟨w10, hput, mk10, gr10⟩ := mk9.put (t := 62) Try.underlying62 (by unfold maxLen; omega) (k := yi) hwf true
                              have LSn : Hid (LoopS w6 w10 S k v2 (G ++ [⟨(q : Int), true, yo, ys, yi⟩])) := by refine LoopS.more LSa.out ?_ grow9 ?_ gr10; (· rw [CF.out, HGL.out]; exact own9); (· rw [HGL.out]; exact mk10)
                              have j4 : w9.cell? ⟨wr.heap.size, 4, none⟩ = some (.int .i64 yi) := (cell_keptF (K9.out _ n1 s2 (fun b hb => by have := OBw.out b hb; omega))).trans e4
                              have j3 : w10.cell? ⟨wr.heap.size, 3, none⟩ = some (.bool ys) := gr10.cell (a := ⟨wr.heap.size, 3, none⟩) ((cell_keptF (K9.out _ n1 s2 (fun b hb => by have := OBw.out b hb; omega))).trans e3) (by intro e; have e2 : wr.heap.size = w6.heap.size := Option.some.inj e; omega)
                              have i0' : w10.cell? ⟨V.heap.size, 0, none⟩ = some (.int .i64 (q : Int)) := gr10.cell (a := ⟨V.heap.size, 0, none⟩) ((cell_keptF (K9.out _ n2 s3 (fun b hb => OB2.out b hb))).trans h0) (by intro e; have e2 : V.heap.size = w6.heap.size := Option.some.inj e; omega)
                              have i1' : w10.cell? ⟨V.heap.size, 1, none⟩ = some (.bool true) := gr10.cell (a := ⟨V.heap.size, 1, none⟩) ((cell_keptF (K9.out _ n2 s3 (fun b hb => OB2.out b hb))).trans h1) (by intro e; have e2 : V.heap.size = w6.heap.size := Option.some.inj e; omega)
                              have OBn : Hid (∀ b, v2.ownBlock = some b → b ≠ V.heap.size) := fun b hb => by
                                rcases hat9 with h | h
                                · exact OB2.out b (h ▸ hb)
                                · rw [h] at hb; have e2 : _ = b := Option.some.inj hb; have := SZ.out; first | omega | (simp only [World.size_alloc] at e2; omega)
                              obtain ⟨va2, vc2, hv2⟩ : ∃ va vc, v2 = .slice va (gl + 1) vc := by
                                rcases own9.2 with ⟨e, e0⟩ | ⟨g5, cap5, cur5, e, _⟩
                                · exact ⟨none, 0, by rw [e, e0]⟩
                                · exact ⟨_, cap5, e⟩
                              subst hv2
                              clear own9 grow9 hat9 mk9 mk10 gr10 K9 LSa OWA LSd KB r0' r1' r2' r3' f3 hx
                              go_wp2_with fail
                              go_roundg (m - (j + 1))
                              case measure => omega
                              case rel => exact ⟨j + 1, by omega, by omega, by go_num, by rw [HH2.out, HY2.out, List.any_append, HLAST.out]; simp, i0', i1', OBn, (by rw [HH2.out, HY2.out, ← List.append_assoc, HG.out]; exact LSn.out)⟩
                        | false =>
                          by_cases hT : T = (q : Int)
                          · have hd : decide (T = (q : Int)) = true := decide_eq_true hT
                            have hd2 : (T == (q : Int)) = true := by simp [hT]
                            have CF : Hid (callH S k ⟨(q : Int), false, yo, ys, yi⟩ = ⟨yi, (q : Int), T, 2⟩) := by show _ = _; rw [CALF.out]; unfold phaseF; rw [if_pos hT]
                            have LSd : Hid (LoopS w6 (Wc.setCell ⟨W8.heap.size, 3, none⟩ (.int .i64 2)) S k (.slice ga gl gc) G) := (LSc.out.set (cb := W8.heap.size) (o := 3) (.int .i64 2) hcw OBc.out)
                            have KB : Hid (∀ b, b ≠ W8.heap.size → (Wc.setCell ⟨W8.heap.size, 3, none⟩ (.int .i64 2)).heap[b]? = Wc.heap[b]?) := fun b hb => Below.heap_setCell _ _ _ _ hb
                            have SZ : Hid ((Wc.setCell ⟨W8.heap.size, 3, none⟩ (.int .i64 2)).heap.size = Wc.heap.size) := by show _ = _; simp [World.setCell]
                            clear hT
                            have OWA : Hid (((Wc.setCell ⟨W8.heap.size, 3, none⟩ (.int .i64 2)).alloc (.cells #[.int .i64 yi, .int .i64 (q : Int), .int .i64 T, .int .i64 2] 36)).ownsRow (w6.heap.size + 1) 36 4 (.slice ga gl gc) gl (kcells (G.map (callH S k)))) := by have h := (LSd.out.below (one_belowS _ (.cells #[.int .i64 yi, .int .i64 (q : Int), .int .i64 T, .int .i64 2] 36))).ow; rw [HGL.out] at h; exact h
                            cases last with
                            | true =>
                              go_wp2_with (at_builtin; refine wpList_append_own_at _ rfl _ _ 28 rfl (w6.heap.size + 1) 36 j0 (.agg #[.int .i64 0, .int .i64 0, .int .i64 0, .int .i64 0]) 4 32 Try.underlying28 hj0 jz0 jz1 jz2 rfl (by decide) (.slice ga gl gc) gl (kcells (G.map (callH S k))) rfl OWA.out ⟨Wc.heap.size, 0, none⟩ 1 1 (kcell ⟨yi, (q : Int), T, 2⟩) rfl rfl ?c1 ?c2 ?c3 ?c4 ?c5 ?_)
                              case c1 => first | exact fun j u h => h | (have h := news4 (x := ⟨yi, (q : Int), T, 2⟩) (alloc_cell (Wc.setCell ⟨W8.heap.size, 3, none⟩ (.int .i64 2)) #[.int .i64 yi, .int .i64 (q : Int), .int .i64 T, .int .i64 2] 36 0 rfl) (alloc_cell (Wc.setCell ⟨W8.heap.size, 3, none⟩ (.int .i64 2)) #[.int .i64 yi, .int .i64 (q : Int), .int .i64 T, .int .i64 2] 36 1 rfl) (alloc_cell (Wc.setCell ⟨W8.heap.size, 3, none⟩ (.int .i64 2)) #[.int .i64 yi, .int .i64 (q : Int), .int .i64 T, .int .i64 2] 36 2 rfl) (alloc_cell (Wc.setCell ⟨W8.heap.size, 3, none⟩ (.int .i64 2)) #[.int .i64 yi, .int .i64 (q : Int), .int .i64 T, .int .i64 2] 36 3 rfl); rw [SZ.out] at h; exact h)
                              case c2 => exact kcell_one _
                              case c3 => unfold maxLen; omega
                              case c4 => omega
                              case c5 => exact (LSd.out.below (one_belowS _ _)).sz
                              intro v2 w9 own9 grow9 _ hat9
                              have K9 : Hid (∀ b, b ≠ W8.heap.size → b < Wc.heap.size → (∀ b', (Value.slice ga gl gc).ownBlock = some b' → b' ≠ b) → w9.heap[b]? = Wc.heap[b]?) := fun b h1 h2 h3 => (grow9.block b (by have := SZ.out; simp; omega) (fun e => h3 b e.symm rfl)).trans ((Below.heap_alloc _ _ _ (by have := SZ.out; omega)).trans (KB.out b h1))
                              have LSa : Hid (LoopS w6 ((Wc.setCell ⟨W8.heap.size, 3, none⟩ (.int .i64 2)).alloc (.cells #[.int .i64 yi, .int .i64 (q : Int), .int .i64 T, .int .i64 2] 36)) S k (.slice ga gl gc) G) := LSd.out.below (one_belowS _ _)
                              have mk9 : MarksAt w9 w6.heap.size gl (fun y => decide (y ∈ G.map Hr.id)) := by have h := LSa.out.mp.kept (grow9.block _ LSa.out.mp.lt (fun e => by have h2 := (LSa.out.ow.lt _ e.symm).1; omega)); rw [HGL.out] at h; exact h
                              obtain ⟨w10, hput, mk10, gr10⟩ := mk9.put (t := 62) Try.underlying62 (by unfold maxLen; omega) (k := yi) hwf true
                              have LSn : Hid (LoopS w6 w10 S k v2 (G ++ [⟨(q : Int), false, yo, ys, yi⟩])) := by refine LoopS.more LSa.out ?_ grow9 ?_ gr10; (· rw [CF.out, HGL.out]; exact own9); (· rw [HGL.out]; exact mk10)
                              have j4 : w9.cell? ⟨wr.heap.size, 4, none⟩ = some (.int .i64 yi) := (cell_keptF (K9.out _ n1 s2 (fun b hb => by have := OBw.out b hb; omega))).trans e4
                              have j3 : w10.cell? ⟨wr.heap.size, 3, none⟩ = some (.bool ys) := gr10.cell (a := ⟨wr.heap.size, 3, none⟩) ((cell_keptF (K9.out _ n1 s2 (fun b hb => by have := OBw.out b hb; omega))).trans e3) (by intro e; have e2 : wr.heap.size = w6.heap.size := Option.some.inj e; omega)
                              have i0' : w10.cell? ⟨V.heap.size, 0, none⟩ = some (.int .i64 (q : Int)) := gr10.cell (a := ⟨V.heap.size, 0, none⟩) ((cell_keptF (K9.out _ n2 s3 (fun b hb => OB2.out b hb))).trans h0) (by intro e; have e2 : V.heap.size = w6.heap.size := Option.some.inj e; omega)
                              have i1' : w10.cell? ⟨V.heap.size, 1, none⟩ = some (.bool false) := gr10.cell (a := ⟨V.heap.size, 1, none⟩) ((cell_keptF (K9.out _ n2 s3 (fun b hb => OB2.out b hb))).trans h1) (by intro e; have e2 : V.heap.size = w6.heap.size := Option.some.inj e; omega)
                              have OBn : Hid (∀ b, v2.ownBlock = some b → b ≠ V.heap.size) := fun b hb => by
                                rcases hat9 with h | h
                                · exact OB2.out b (h ▸ hb)
                                · rw [h] at hb; have e2 : _ = b := Option.some.inj hb; have := SZ.out; first | omega | (simp only [World.size_alloc] at e2; omega)
                              obtain ⟨va2, vc2, hv2⟩ : ∃ va vc, v2 = .slice va (gl + 1) vc := by
                                rcases own9.2 with ⟨e, e0⟩ | ⟨g5, cap5, cur5, e, _⟩
                                · exact ⟨none, 0, by rw [e, e0]⟩
                                · exact ⟨_, cap5, e⟩
                              subst hv2
                              clear own9 grow9 hat9 mk9 mk10 gr10 K9 LSa OWA LSd KB r0' r1' r2' r3' f3 hx
                              go_wp2_with fail
                              go_roundg (m - (j + 1))
                              case measure => omega
                              case rel => exact ⟨j + 1, by omega, by omega, by go_num, by rw [HH2.out, HY2.out, List.any_append, HLAST.out]; simp, i0', i1', OBn, (by rw [HH2.out, HY2.out, ← List.append_assoc, HG.out]; exact LSn.out)⟩
                            | false =>
                              go_wp2_with (at_builtin; refine wpList_append_own_at _ rfl _ _ 28 rfl (w6.heap.size + 1) 36 j0 (.agg #[.int .i64 0, .int .i64 0, .int .i64 0, .int .i64 0]) 4 32 Try.underlying28 hj0 jz0 jz1 jz2 rfl (by decide) (.slice ga gl gc) gl (kcells (G.map (callH S k))) rfl OWA.out ⟨Wc.heap.size, 0, none⟩ 1 1 (kcell ⟨yi, (q : Int), T, 2⟩) rfl rfl ?c1 ?c2 ?c3 ?c4 ?c5 ?_)
                              case c1 => first | exact fun j u h => h | (have h := news4 (x := ⟨yi, (q : Int), T, 2⟩) (alloc_cell (Wc.setCell ⟨W8.heap.size, 3, none⟩ (.int .i64 2)) #[.int .i64 yi, .int .i64 (q : Int), .int .i64 T, .int .i64 2] 36 0 rfl) (alloc_cell (Wc.setCell ⟨W8.heap.size, 3, none⟩ (.int .i64 2)) #[.int .i64 yi, .int .i64 (q : Int), .int .i64 T, .int .i64 2] 36 1 rfl) (alloc_cell (Wc.setCell ⟨W8.heap.size, 3, none⟩ (.int .i64 2)) #[.int .i64 yi, .int .i64 (q : Int), .int .i64 T, .int .i64 2] 36 2 rfl) (alloc_cell (Wc.setCell ⟨W8.heap.size, 3, none⟩ (.int .i64 2)) #[.int .i64 yi, .int .i64 (q : Int), .int .i64 T, .int .i64 2] 36 3 rfl); rw [SZ.out] at h; exact h)
                              case c2 => exact kcell_one _
                              case c3 => unfold maxLen; omega
                              case c4 => omega
                              case c5 => exact (LSd.out.below (one_belowS _ _)).sz
                              intro v2 w9 own9 grow9 _ hat9
                              have K9 : Hid (∀ b, b ≠ W8.heap.size → b < Wc.heap.size → (∀ b', (Value.slice ga gl gc).ownBlock = some b' → b' ≠ b) → w9.heap[b]? = Wc.heap[b]?) := fun b h1 h2 h3 => (grow9.block b (by have := SZ.out; simp; omega) (fun e => h3 b e.symm rfl)).trans ((Below.heap_alloc _ _ _ (by have := SZ.out; omega)).trans (KB.out b h1))
                              have LSa : Hid (LoopS w6 ((Wc.setCell ⟨W8.heap.size, 3, none⟩ (.int .i64 2)).alloc (.cells #[.int .i64 yi, .int .i64 (q : Int), .int .i64 T, .int .i64 2] 36)) S k (.slice ga gl gc) G) := LSd.out.below (one_belowS _ _)
                              have mk9 : MarksAt w9 w6.heap.size gl (fun y => decide (y ∈ G.map Hr.id)) := by have h := LSa.out.mp.kept (grow9.block _ LSa.out.mp.lt (fun e => by have h2 := (LSa.out.ow.lt _ e.symm).1; omega)); rw [HGL.out] at h; exact h
                              obtain ⟨w10, hput, mk10, gr10⟩ := mk9.put (t := 62) Try.underlying62 (by unfold maxLen; omega) (k := yi) hwf true
                              have LSn : Hid (LoopS w6 w10 S k v2 (G ++ [⟨(q : Int), false, yo, ys, yi⟩])) := by refine LoopS.more LSa.out ?_ grow9 ?_ gr10; (· rw [CF.out, HGL.out]; exact own9); (· rw [HGL.out]; exact mk10)
                              have j4 : w9.cell? ⟨wr.heap.size, 4, none⟩ = some (.int .i64 yi) := (cell_keptF (K9.out _ n1 s2 (fun b hb => by have := OBw.out b hb; omega))).trans e4
                              have j3 : w10.cell? ⟨wr.heap.size, 3, none⟩ = some (.bool ys) := gr10.cell (a := ⟨wr.heap.size, 3, none⟩) ((cell_keptF (K9.out _ n1 s2 (fun b hb => by have := OBw.out b hb; omega))).trans e3) (by intro e; have e2 : wr.heap.size = w6.heap.size := Option.some.inj e; omega)
                              have i0' : w10.cell? ⟨V.heap.size, 0, none⟩ = some (.int .i64 (q : Int)) := gr10.cell (a := ⟨V.heap.size, 0, none⟩) ((cell_keptF (K9.out _ n2 s3 (fun b hb => OB2.out b hb))).trans h0) (by intro e; have e2 : V.heap.size = w6.heap.size := Option.some.inj e; omega)
                              have i1' : w10.cell? ⟨V.heap.size, 1, none⟩ = some (.bool false) := gr10.cell (a := ⟨V.heap.size, 1, none⟩) ((cell_keptF (K9.out _ n2 s3 (fun b hb => OB2.out b hb))).trans h1) (by intro e; have e2 : V.heap.size = w6.heap.size := Option.some.inj e; omega)
                              have OBn : Hid (∀ b, v2.ownBlock = some b → b ≠ V.heap.size) := fun b hb => by
                                rcases hat9 with h | h
                                · exact OB2.out b (h ▸ hb)
                                · rw [h] at hb; have e2 : _ = b := Option.some.inj hb; have := SZ.out; first | omega | (simp only [World.size_alloc] at e2; omega)
                              obtain ⟨va2, vc2, hv2⟩ : ∃ va vc, v2 = .slice va (gl + 1) vc := by
                                rcases own9.2 with ⟨e, e0⟩ | ⟨g5, cap5, cur5, e, _⟩
                                · exact ⟨none, 0, by rw [e, e0]⟩
                                · exact ⟨_, cap5, e⟩
                              subst hv2
                              clear own9 grow9 hat9 mk9 mk10 gr10 K9 LSa OWA LSd KB r0' r1' r2' r3' f3 hx
                              go_wp2_with fail
                              go_roundg (m - (j + 1))
                              case measure => omega
                              case rel => exact ⟨j + 1, by omega, by omega, by go_num, by rw [HH2.out, HY2.out, List.any_append, HLAST.out]; simp, i0', i1', OBn, (by rw [HH2.out, HY2.out, ← List.append_assoc, HG.out]; exact LSn.out)⟩
                          · have hd : decide (T = (q : Int)) = false := decide_eq_false hT
                            have hd2 : (T == (q : Int)) = false := by simp [hT]
                            have CF : Hid (callH S k ⟨(q : Int), false, yo, ys, yi⟩ = ⟨yi, (q : Int), T, 3⟩) := by show _ = _; rw [CALF.out]; unfold phaseF; rw [if_neg hT]; rfl
                            have LSd : Hid (LoopS w6 Wc S k (.slice ga gl gc) G) := LSc.out
                            clear hT
                            have OWA : Hid ((Wc.alloc (.cells #[.int .i64 yi, .int .i64 (q : Int), .int .i64 T, .int .i64 3] 36)).ownsRow (w6.heap.size + 1) 36 4 (.slice ga gl gc) gl (kcells (G.map (callH S k)))) := by have h := (LSd.out.below (one_belowS _ (.cells #[.int .i64 yi, .int .i64 (q : Int), .int .i64 T, .int .i64 3] 36))).ow; rw [HGL.out] at h; exact h
                            cases last with
                            | true =>
                              go_wp2_with (at_builtin; refine wpList_append_own_at _ rfl _ _ 28 rfl (w6.heap.size + 1) 36 j0 (.agg #[.int .i64 0, .int .i64 0, .int .i64 0, .int .i64 0]) 4 32 Try.underlying28 hj0 jz0 jz1 jz2 rfl (by decide) (.slice ga gl gc) gl (kcells (G.map (callH S k))) rfl OWA.out ⟨Wc.heap.size, 0, none⟩ 1 1 (kcell ⟨yi, (q : Int), T, 3⟩) rfl rfl ?c1 ?c2 ?c3 ?c4 ?c5 ?_)
                              case c1 => first | exact fun j u h => h | (have h := news4 (x := ⟨yi, (q : Int), T, 3⟩) (alloc_cell Wc #[.int .i64 yi, .int .i64 (q : Int), .int .i64 T, .int .i64 3] 36 0 rfl) (alloc_cell Wc #[.int .i64 yi, .int .i64 (q : Int), .int .i64 T, .int .i64 3] 36 1 rfl) (alloc_cell Wc #[.int .i64 yi, .int .i64 (q : Int), .int .i64 T, .int .i64 3] 36 2 rfl) (alloc_cell Wc #[.int .i64 yi, .int .i64 (q : Int), .int .i64 T, .int .i64 3] 36 3 rfl); exact h)
                              case c2 => exact kcell_one _
                              case c3 => unfold maxLen; omega
                              case c4 => omega
                              case c5 => exact (LSd.out.below (one_belowS _ _)).sz
                              intro v2 w9 own9 grow9 _ hat9
                              have K9 : Hid (∀ b, b ≠ W8.heap.size → b < Wc.heap.size → (∀ b', (Value.slice ga gl gc).ownBlock = some b' → b' ≠ b) → w9.heap[b]? = Wc.heap[b]?) := fun b h1 h2 h3 => (grow9.block b (by simp; omega) (fun e => h3 b e.symm rfl)).trans ((Below.heap_alloc _ _ _ (by omega)))
                              have LSa : Hid (LoopS w6 (Wc.alloc (.cells #[.int .i64 yi, .int .i64 (q : Int), .int .i64 T, .int .i64 3] 36)) S k (.slice ga gl gc) G) := LSd.out.below (one_belowS _ _)
                              have mk9 : MarksAt w9 w6.heap.size gl (fun y => decide (y ∈ G.map Hr.id)) := by have h := LSa.out.mp.kept (grow9.block _ LSa.out.mp.lt (fun e => by have h2 := (LSa.out.ow.lt _ e.symm).1; omega)); rw [HGL.out] at h; exact h
                              obtain ⟨w10, hput, mk10, gr10⟩ := mk9.put (t := 62) Try.underlying62 (by unfold maxLen; omega) (k := yi) hwf true
                              have LSn : Hid (LoopS w6 w10 S k v2 (G ++ [⟨(q : Int), false, yo, ys, yi⟩])) := by refine LoopS.more LSa.out ?_ grow9 ?_ gr10; (· rw [CF.out, HGL.out]; exact own9); (· rw [HGL.out]; exact mk10)
                              have j4 : w9.cell? ⟨wr.heap.size, 4, none⟩ = some (.int .i64 yi) := (cell_keptF (K9.out _ n1 s2 (fun b hb => by have := OBw.out b hb; omega))).trans e4
                              have j3 : w10.cell? ⟨wr.heap.size, 3, none⟩ = some (.bool ys) := gr10.cell (a := ⟨wr.heap.size, 3, none⟩) ((cell_keptF (K9.out _ n1 s2 (fun b hb => by have := OBw.out b hb; omega))).trans e3) (by intro e; have e2 : wr.heap.size = w6.heap.size := Option.some.inj e; omega)
                              have i0' : w10.cell? ⟨V.heap.size, 0, none⟩ = some (.int .i64 (q : Int)) := gr10.cell (a := ⟨V.heap.size, 0, none⟩) ((cell_keptF (K9.out _ n2 s3 (fun b hb => OB2.out b hb))).trans h0) (by intro e; have e2 : V.heap.size = w6.heap.size := Option.some.inj e; omega)
                              have i1' : w10.cell? ⟨V.heap.size, 1, none⟩ = some (.bool false) := gr10.cell (a := ⟨V.heap.size, 1, none⟩) ((cell_keptF (K9.out _ n2 s3 (fun b hb => OB2.out b hb))).trans h1) (by intro e; have e2 : V.heap.size = w6.heap.size := Option.some.inj e; omega)
                              have OBn : Hid (∀ b, v2.ownBlock = some b → b ≠ V.heap.size) := fun b hb => by
                                rcases hat9 with h | h
                                · exact OB2.out b (h ▸ hb)
                                · rw [h] at hb; have e2 : _ = b := Option.some.inj hb; first | omega | (simp only [World.size_alloc] at e2; omega)
                              obtain ⟨va2, vc2, hv2⟩ : ∃ va vc, v2 = .slice va (gl + 1) vc := by
                                rcases own9.2 with ⟨e, e0⟩ | ⟨g5, cap5, cur5, e, _⟩
                                · exact ⟨none, 0, by rw [e, e0]⟩
                                · exact ⟨_, cap5, e⟩
                              subst hv2
                              clear own9 grow9 hat9 mk9 mk10 gr10 K9 LSa OWA LSd r0' r1' r2' r3' f3 hx
                              go_wp2_with fail
                              go_roundg (m - (j + 1))
                              case measure => omega
                              case rel => exact ⟨j + 1, by omega, by omega, by go_num, by rw [HH2.out, HY2.out, List.any_append, HLAST.out]; simp, i0', i1', OBn, (by rw [HH2.out, HY2.out, ← List.append_assoc, HG.out]; exact LSn.out)⟩
                            | false =>
                              go_wp2_with (at_builtin; refine wpList_append_own_at _ rfl _ _ 28 rfl (w6.heap.size + 1) 36 j0 (.agg #[.int .i64 0, .int .i64 0, .int .i64 0, .int .i64 0]) 4 32 Try.underlying28 hj0 jz0 jz1 jz2 rfl (by decide) (.slice ga gl gc) gl (kcells (G.map (callH S k))) rfl OWA.out ⟨Wc.heap.size, 0, none⟩ 1 1 (kcell ⟨yi, (q : Int), T, 3⟩) rfl rfl ?c1 ?c2 ?c3 ?c4 ?c5 ?_)
                              case c1 => first | exact fun j u h => h | (have h := news4 (x := ⟨yi, (q : Int), T, 3⟩) (alloc_cell Wc #[.int .i64 yi, .int .i64 (q : Int), .int .i64 T, .int .i64 3] 36 0 rfl) (alloc_cell Wc #[.int .i64 yi, .int .i64 (q : Int), .int .i64 T, .int .i64 3] 36 1 rfl) (alloc_cell Wc #[.int .i64 yi, .int .i64 (q : Int), .int .i64 T, .int .i64 3] 36 2 rfl) (alloc_cell Wc #[.int .i64 yi, .int .i64 (q : Int), .int .i64 T, .int .i64 3] 36 3 rfl); exact h)
                              case c2 => exact kcell_one _
                              case c3 => unfold maxLen; omega
                              case c4 => omega
                              case c5 => exact (LSd.out.below (one_belowS _ _)).sz
                              intro v2 w9 own9 grow9 _ hat9
                              have K9 : Hid (∀ b, b ≠ W8.heap.size → b < Wc.heap.size → (∀ b', (Value.slice ga gl gc).ownBlock = some b' → b' ≠ b) → w9.heap[b]? = Wc.heap[b]?) := fun b h1 h2 h3 => (grow9.block b (by simp; omega) (fun e => h3 b e.symm rfl)).trans ((Below.heap_alloc _ _ _ (by omega)))
                              have LSa : Hid (LoopS w6 (Wc.alloc (.cells #[.int .i64 yi, .int .i64 (q : Int), .int .i64 T, .int .i64 3] 36)) S k (.slice ga gl gc) G) := LSd.out.below (one_belowS _ _)
                              have mk9 : MarksAt w9 w6.heap.size gl (fun y => decide (y ∈ G.map Hr.id)) := by have h := LSa.out.mp.kept (grow9.block _ LSa.out.mp.lt (fun e => by have h2 := (LSa.out.ow.lt _ e.symm).1; omega)); rw [HGL.out] at h; exact h
                              obtain ⟨w10, hput, mk10, gr10⟩ := mk9.put (t := 62) Try.underlying62 (by unfold maxLen; omega) (k := yi) hwf true
                              have LSn : Hid (LoopS w6 w10 S k v2 (G ++ [⟨(q : Int), false, yo, ys, yi⟩])) := by refine LoopS.more LSa.out ?_ grow9 ?_ gr10; (· rw [CF.out, HGL.out]; exact own9); (· rw [HGL.out]; exact mk10)
                              have j4 : w9.cell? ⟨wr.heap.size, 4, none⟩ = some (.int .i64 yi) := (cell_keptF (K9.out _ n1 s2 (fun b hb => by have := OBw.out b hb; omega))).trans e4
                              have j3 : w10.cell? ⟨wr.heap.size, 3, none⟩ = some (.bool ys) := gr10.cell (a := ⟨wr.heap.size, 3, none⟩) ((cell_keptF (K9.out _ n1 s2 (fun b hb => by have := OBw.out b hb; omega))).trans e3) (by intro e; have e2 : wr.heap.size = w6.heap.size := Option.some.inj e; omega)
                              have i0' : w10.cell? ⟨V.heap.size, 0, none⟩ = some (.int .i64 (q : Int)) := gr10.cell (a := ⟨V.heap.size, 0, none⟩) ((cell_keptF (K9.out _ n2 s3 (fun b hb => OB2.out b hb))).trans h0) (by intro e; have e2 : V.heap.size = w6.heap.size := Option.some.inj e; omega)
                              have i1' : w10.cell? ⟨V.heap.size, 1, none⟩ = some (.bool false) := gr10.cell (a := ⟨V.heap.size, 1, none⟩) ((cell_keptF (K9.out _ n2 s3 (fun b hb => OB2.out b hb))).trans h1) (by intro e; have e2 : V.heap.size = w6.heap.size := Option.some.inj e; omega)
                              have OBn : Hid (∀ b, v2.ownBlock = some b → b ≠ V.heap.size) := fun b hb => by
                                rcases hat9 with h | h
                                · exact OB2.out b (h ▸ hb)
                                · rw [h] at hb; have e2 : _ = b := Option.some.inj hb; first | omega | (simp only [World.size_alloc] at e2; omega)
                              obtain ⟨va2, vc2, hv2⟩ : ∃ va vc, v2 = .slice va (gl + 1) vc := by
                                rcases own9.2 with ⟨e, e0⟩ | ⟨g5, cap5, cur5, e, _⟩
                                · exact ⟨none, 0, by rw [e, e0]⟩
                                · exact ⟨_, cap5, e⟩
                              subst hv2
                              clear own9 grow9 hat9 mk9 mk10 gr10 K9 LSa OWA LSd r0' r1' r2' r3' f3 hx
                              go_wp2_with fail
                              go_roundg (m - (j + 1))
                              case measure => omega
                              case rel => exact ⟨j + 1, by omega, by omega, by go_num, by rw [HH2.out, HY2.out, List.any_append, HLAST.out]; simp, i0', i1', OBn, (by rw [HH2.out, HY2.out, ← List.append_assoc, HG.out]; exact LSn.out)⟩
                      · clear CALL NEW DTq HS8 c4 c3 u0 u1 r0 r1
                        obtain ⟨Wc, hWc⟩ : ∃ Wc, w7.alloc (.cells #[.int .i64 yi, .int .i64 (q : Int), .int .i64 T, .int .i64 3] 36) = Wc := ⟨_, rfl⟩
                        have hx : Wc.heap[w7.heap.size]? = some (.cells #[.int .i64 yi, .int .i64 (q : Int), .int .i64 T, .int .i64 3] 36 (0, 0)) := by rw [← hWc]; exact heap_alloc_new w7 _
                        have hbV : Below w7.heap.size w7 Wc := by rw [← hWc]; exact one_belowS _ _
                        have s1 : w7.heap.size < Wc.heap.size := by rw [← hWc]; simp
                        have OBc : Hid (∀ b, (Value.slice ga gl gc).ownBlock = some b → b ≠ w7.heap.size) := fun b hb => by have := OBw.out b hb; omega
                        have hcw : w6.heap.size < w7.heap.size := by omega
                        have LSc : Hid (LoopS w6 Wc S k (.slice ga gl gc) G) := LS7.out.below hbV
                        have e4 := keepC d4 hbV
                        have e3 := keepC d3 hbV
                        have h0 := keepC g0 hbV
                        have h1 := keepC g1 hbV
                        have s2 : wr.heap.size < Wc.heap.size := by omega
                        have s3 : V.heap.size < Wc.heap.size := by omega
                        have n1 : wr.heap.size ≠ w7.heap.size := by omega
                        have n2 : V.heap.size ≠ w7.heap.size := by omega
                        rw [hWc]
                        clear hWc hbV d4 d3 g0 g1 g2 g3 LS7
                        obtain ⟨r0', r1', r2', r3', fz⟩ := box4_cells hx
                        have f3 := fz 3
                        clear fz
                        cases yd with
                        | true =>
                          by_cases hT : T = (q : Int)
                          · have hd : decide (T = (q : Int)) = true := decide_eq_true hT
                            have hd2 : (T == (q : Int)) = true := by simp [hT]
                            have CF : Hid (callH S k ⟨(q : Int), true, yo, ys, yi⟩ = ⟨yi, (q : Int), T, 2⟩) := by show _ = _; rw [CALF.out]; unfold phaseF; rw [if_pos hT]
                            have LSd : Hid (LoopS w6 ((Wc.setCell ⟨w7.heap.size, 3, none⟩ (.int .i64 1)).setCell ⟨w7.heap.size, 3, none⟩ (.int .i64 2)) S k (.slice ga gl gc) G) := ((LSc.out.set (cb := w7.heap.size) (o := 3) (.int .i64 1) hcw OBc.out).set (cb := w7.heap.size) (o := 3) (.int .i64 2) hcw OBc.out)
                            have KB : Hid (∀ b, b ≠ w7.heap.size → ((Wc.setCell ⟨w7.heap.size, 3, none⟩ (.int .i64 1)).setCell ⟨w7.heap.size, 3, none⟩ (.int .i64 2)).heap[b]? = Wc.heap[b]?) := fun b hb => (Below.heap_setCell _ _ _ _ hb).trans (Below.heap_setCell _ _ _ _ hb)
                            have SZ : Hid (((Wc.setCell ⟨w7.heap.size, 3, none⟩ (.int .i64 1)).setCell ⟨w7.heap.size, 3, none⟩ (.int .i64 2)).heap.size = Wc.heap.size) := by show _ = _; simp [World.setCell]
                            clear hT
                            have OWA : Hid ((((Wc.setCell ⟨w7.heap.size, 3, none⟩ (.int .i64 1)).setCell ⟨w7.heap.size, 3, none⟩ (.int .i64 2)).alloc (.cells #[.int .i64 yi, .int .i64 (q : Int), .int .i64 T, .int .i64 2] 36)).ownsRow (w6.heap.size + 1) 36 4 (.slice ga gl gc) gl (kcells (G.map (callH S k)))) := by have h := (LSd.out.below (one_belowS _ (.cells #[.int .i64 yi, .int .i64 (q : Int), .int .i64 T, .int .i64 2] 36))).ow; rw [HGL.out] at h; exact h
                            cases last with
                            | true =>
                              go_wp2_with (at_builtin; refine wpList_append_own_at _ rfl _ _ 28 rfl (w6.heap.size + 1) 36 j0 (.agg #[.int .i64 0, .int .i64 0, .int .i64 0, .int .i64 0]) 4 32 Try.underlying28 hj0 jz0 jz1 jz2 rfl (by decide) (.slice ga gl gc) gl (kcells (G.map (callH S k))) rfl OWA.out ⟨Wc.heap.size, 0, none⟩ 1 1 (kcell ⟨yi, (q : Int), T, 2⟩) rfl rfl ?c1 ?c2 ?c3 ?c4 ?c5 ?_)
                              case c1 => first | exact fun j u h => h | (have h := news4 (x := ⟨yi, (q : Int), T, 2⟩) (alloc_cell ((Wc.setCell ⟨w7.heap.size, 3, none⟩ (.int .i64 1)).setCell ⟨w7.heap.size, 3, none⟩ (.int .i64 2)) #[.int .i64 yi, .int .i64 (q : Int), .int .i64 T, .int .i64 2] 36 0 rfl) (alloc_cell ((Wc.setCell ⟨w7.heap.size, 3, none⟩ (.int .i64 1)).setCell ⟨w7.heap.size, 3, none⟩ (.int .i64 2)) #[.int .i64 yi, .int .i64 (q : Int), .int .i64 T, .int .i64 2] 36 1 rfl) (alloc_cell ((Wc.setCell ⟨w7.heap.size, 3, none⟩ (.int .i64 1)).setCell ⟨w7.heap.size, 3, none⟩ (.int .i64 2)) #[.int .i64 yi, .int .i64 (q : Int), .int .i64 T, .int .i64 2] 36 2 rfl) (alloc_cell ((Wc.setCell ⟨w7.heap.size, 3, none⟩ (.int .i64 1)).setCell ⟨w7.heap.size, 3, none⟩ (.int .i64 2)) #[.int .i64 yi, .int .i64 (q : Int), .int .i64 T, .int .i64 2] 36 3 rfl); rw [SZ.out] at h; exact h)
                              case c2 => exact kcell_one _
                              case c3 => unfold maxLen; omega
                              case c4 => omega
                              case c5 => exact (LSd.out.below (one_belowS _ _)).sz
                              intro v2 w9 own9 grow9 _ hat9
                              have K9 : Hid (∀ b, b ≠ w7.heap.size → b < Wc.heap.size → (∀ b', (Value.slice ga gl gc).ownBlock = some b' → b' ≠ b) → w9.heap[b]? = Wc.heap[b]?) := fun b h1 h2 h3 => (grow9.block b (by have := SZ.out; simp; omega) (fun e => h3 b e.symm rfl)).trans ((Below.heap_alloc _ _ _ (by have := SZ.out; omega)).trans (KB.out b h1))
                              have LSa : Hid (LoopS w6 (((Wc.setCell ⟨w7.heap.size, 3, none⟩ (.int .i64 1)).setCell ⟨w7.heap.size, 3, none⟩ (.int .i64 2)).alloc (.cells #[.int .i64 yi, .int .i64 (q : Int), .int .i64 T, .int .i64 2] 36)) S k (.slice ga gl gc) G) := LSd.out.below (one_belowS _ _)
                              have mk9 : MarksAt w9 w6.heap.size gl (fun y => decide (y ∈ G.map Hr.id)) := by have h := LSa.out.mp.kept (grow9.block _ LSa.out.mp.lt (fun e => by have h2 := (LSa.out.ow.lt _ e.symm).1; omega)); rw [HGL.out] at h; exact h
                              obtain ⟨w10, hput, mk10, gr10⟩ := mk9.put (t := 62) Try.underlying62 (by unfold maxLen; omega) (k := yi) hwf true
                              have LSn : Hid (LoopS w6 w10 S k v2 (G ++ [⟨(q : Int), true, yo, ys, yi⟩])) := by refine LoopS.more LSa.out ?_ grow9 ?_ gr10; (· rw [CF.out, HGL.out]; exact own9); (· rw [HGL.out]; exact mk10)
                              have j4 : w9.cell? ⟨wr.heap.size, 4, none⟩ = some (.int .i64 yi) := (cell_keptF (K9.out _ n1 s2 (fun b hb => by have := OBw.out b hb; omega))).trans e4
                              have j3 : w10.cell? ⟨wr.heap.size, 3, none⟩ = some (.bool ys) := gr10.cell (a := ⟨wr.heap.size, 3, none⟩) ((cell_keptF (K9.out _ n1 s2 (fun b hb => by have := OBw.out b hb; omega))).trans e3) (by intro e; have e2 : wr.heap.size = w6.heap.size := Option.some.inj e; omega)
                              have i0' : w10.cell? ⟨V.heap.size, 0, none⟩ = some (.int .i64 (q : Int)) := gr10.cell (a := ⟨V.heap.size, 0, none⟩) ((cell_keptF (K9.out _ n2 s3 (fun b hb => OB2.out b hb))).trans h0) (by intro e; have e2 : V.heap.size = w6.heap.size := Option.some.inj e; omega)
                              have i1' : w10.cell? ⟨V.heap.size, 1, none⟩ = some (.bool true) := gr10.cell (a := ⟨V.heap.size, 1, none⟩) ((cell_keptF (K9.out _ n2 s3 (fun b hb => OB2.out b hb))).trans h1) (by intro e; have e2 : V.heap.size = w6.heap.size := Option.some.inj e; omega)
                              have OBn : Hid (∀ b, v2.ownBlock = some b → b ≠ V.heap.size) := fun b hb => by
                                rcases hat9 with h | h
                                · exact OB2.out b (h ▸ hb)
                                · rw [h] at hb; have e2 : _ = b := Option.some.inj hb; have := SZ.out; first | omega | (simp only [World.size_alloc] at e2; omega)
                              obtain ⟨va2, vc2, hv2⟩ : ∃ va vc, v2 = .slice va (gl + 1) vc := by
                                rcases own9.2 with ⟨e, e0⟩ | ⟨g5, cap5, cur5, e, _⟩
                                · exact ⟨none, 0, by rw [e, e0]⟩
                                · exact ⟨_, cap5, e⟩
                              subst hv2
                              clear own9 grow9 hat9 mk9 mk10 gr10 K9 LSa OWA LSd KB r0' r1' r2' r3' f3 hx
                              go_wp2_with fail
                              go_roundg (m - (j + 1))
                              case measure => omega
                              case rel => exact ⟨j + 1, by omega, by omega, by go_num, by rw [HH2.out, HY2.out, List.any_append, HLAST.out]; simp, i0', i1', OBn, (by rw [HH2.out, HY2.out, ← List.append_assoc, HG.out]; exact LSn.out)⟩
                            | false =>
                              go_wp2_with (at_builtin; refine wpList_append_own_at _ rfl _ _ 28 rfl (w6.heap.size + 1) 36 j0 (.agg #[.int .i64 0, .int .i64 0, .int .i64 0, .int .i64 0]) 4 32 Try.underlying28 hj0 jz0 jz1 jz2 rfl (by decide) (.slice ga gl gc) gl (kcells (G.map (callH S k))) rfl OWA.out ⟨Wc.heap.size, 0, none⟩ 1 1 (kcell ⟨yi, (q : Int), T, 2⟩) rfl rfl ?c1 ?c2 ?c3 ?c4 ?c5 ?_)
                              case c1 => first | exact fun j u h => h | (have h := news4 (x := ⟨yi, (q : Int), T, 2⟩) (alloc_cell ((Wc.setCell ⟨w7.heap.size, 3, none⟩ (.int .i64 1)).setCell ⟨w7.heap.size, 3, none⟩ (.int .i64 2)) #[.int .i64 yi, .int .i64 (q : Int), .int .i64 T, .int .i64 2] 36 0 rfl) (alloc_cell ((Wc.setCell ⟨w7.heap.size, 3, none⟩ (.int .i64 1)).setCell ⟨w7.heap.size, 3, none⟩ (.int .i64 2)) #[.int .i64 yi, .int .i64 (q : Int), .int .i64 T, .int .i64 2] 36 1 rfl) (alloc_cell ((Wc.setCell ⟨w7.heap.size, 3, none⟩ (.int .i64 1)).setCell ⟨w7.heap.size, 3, none⟩ (.int .i64 2)) #[.int .i64 yi, .int .i64 (q : Int), .int .i64 T, .int .i64 2] 36 2 rfl) (alloc_cell ((Wc.setCell ⟨w7.heap.size, 3, none⟩ (.int .i64 1)).setCell ⟨w7.heap.size, 3, none⟩ (.int .i64 2)) #[.int .i64 yi, .int .i64 (q : Int), .int .i64 T, .int .i64 2] 36 3 rfl); rw [SZ.out] at h; exact h)
                              case c2 => exact kcell_one _
                              case c3 => unfold maxLen; omega
                              case c4 => omega
                              case c5 => exact (LSd.out.below (one_belowS _ _)).sz
                              intro v2 w9 own9 grow9 _ hat9
                              have K9 : Hid (∀ b, b ≠ w7.heap.size → b < Wc.heap.size → (∀ b', (Value.slice ga gl gc).ownBlock = some b' → b' ≠ b) → w9.heap[b]? = Wc.heap[b]?) := fun b h1 h2 h3 => (grow9.block b (by have := SZ.out; simp; omega) (fun e => h3 b e.symm rfl)).trans ((Below.heap_alloc _ _ _ (by have := SZ.out; omega)).trans (KB.out b h1))
                              have LSa : Hid (LoopS w6 (((Wc.setCell ⟨w7.heap.size, 3, none⟩ (.int .i64 1)).setCell ⟨w7.heap.size, 3, none⟩ (.int .i64 2)).alloc (.cells #[.int .i64 yi, .int .i64 (q : Int), .int .i64 T, .int .i64 2] 36)) S k (.slice ga gl gc) G) := LSd.out.below (one_belowS _ _)
                              have mk9 : MarksAt w9 w6.heap.size gl (fun y => decide (y ∈ G.map Hr.id)) := by have h := LSa.out.mp.kept (grow9.block _ LSa.out.mp.lt (fun e => by have h2 := (LSa.out.ow.lt _ e.symm).1; omega)); rw [HGL.out] at h; exact h
                              obtain ⟨w10, hput, mk10, gr10⟩ := mk9.put (t := 62) Try.underlying62 (by unfold maxLen; omega) (k := yi) hwf true
                              have LSn : Hid (LoopS w6 w10 S k v2 (G ++ [⟨(q : Int), true, yo, ys, yi⟩])) := by refine LoopS.more LSa.out ?_ grow9 ?_ gr10; (· rw [CF.out, HGL.out]; exact own9); (· rw [HGL.out]; exact mk10)
                              have j4 : w9.cell? ⟨wr.heap.size, 4, none⟩ = some (.int .i64 yi) := (cell_keptF (K9.out _ n1 s2 (fun b hb => by have := OBw.out b hb; omega))).trans e4
                              have j3 : w10.cell? ⟨wr.heap.size, 3, none⟩ = some (.bool ys) := gr10.cell (a := ⟨wr.heap.size, 3, none⟩) ((cell_keptF (K9.out _ n1 s2 (fun b hb => by have := OBw.out b hb; omega))).trans e3) (by intro e; have e2 : wr.heap.size = w6.heap.size := Option.some.inj e; omega)
                              have i0' : w10.cell? ⟨V.heap.size, 0, none⟩ = some (.int .i64 (q : Int)) := gr10.cell (a := ⟨V.heap.size, 0, none⟩) ((cell_keptF (K9.out _ n2 s3 (fun b hb => OB2.out b hb))).trans h0) (by intro e; have e2 : V.heap.size = w6.heap.size := Option.some.inj e; omega)
                              have i1' : w10.cell? ⟨V.heap.size, 1, none⟩ = some (.bool true) := gr10.cell (a := ⟨V.heap.size, 1, none⟩) ((cell_keptF (K9.out _ n2 s3 (fun b hb => OB2.out b hb))).trans h1) (by intro e; have e2 : V.heap.size = w6.heap.size := Option.some.inj e; omega)
                              have OBn : Hid (∀ b, v2.ownBlock = some b → b ≠ V.heap.size) := fun b hb => by
                                rcases hat9 with h | h
                                · exact OB2.out b (h ▸ hb)
                                · rw [h] at hb; have e2 : _ = b := Option.some.inj hb; have := SZ.out; first | omega | (simp only [World.size_alloc] at e2; omega)
                              obtain ⟨va2, vc2, hv2⟩ : ∃ va vc, v2 = .slice va (gl + 1) vc := by
                                rcases own9.2 with ⟨e, e0⟩ | ⟨g5, cap5, cur5, e, _⟩
                                · exact ⟨none, 0, by rw [e, e0]⟩
                                · exact ⟨_, cap5, e⟩
                              subst hv2
                              clear own9 grow9 hat9 mk9 mk10 gr10 K9 LSa OWA LSd KB r0' r1' r2' r3' f3 hx
                              go_wp2_with fail
                              go_roundg (m - (j + 1))
                              case measure => omega
                              case rel => exact ⟨j + 1, by omega, by omega, by go_num, by rw [HH2.out, HY2.out, List.any_append, HLAST.out]; simp, i0', i1', OBn, (by rw [HH2.out, HY2.out, ← List.append_assoc, HG.out]; exact LSn.out)⟩
                          · have hd : decide (T = (q : Int)) = false := decide_eq_false hT
                            have hd2 : (T == (q : Int)) = false := by simp [hT]
                            have CF : Hid (callH S k ⟨(q : Int), true, yo, ys, yi⟩ = ⟨yi, (q : Int), T, 1⟩) := by show _ = _; rw [CALF.out]; unfold phaseF; rw [if_neg hT]; rfl
                            have LSd : Hid (LoopS w6 (Wc.setCell ⟨w7.heap.size, 3, none⟩ (.int .i64 1)) S k (.slice ga gl gc) G) := (LSc.out.set (cb := w7.heap.size) (o := 3) (.int .i64 1) hcw OBc.out)
                            have KB : Hid (∀ b, b ≠ w7.heap.size → (Wc.setCell ⟨w7.heap.size, 3, none⟩ (.int .i64 1)).heap[b]? = Wc.heap[b]?) := fun b hb => Below.heap_setCell _ _ _ _ hb
                            have SZ : Hid ((Wc.setCell ⟨w7.heap.size, 3, none⟩ (.int .i64 1)).heap.size = Wc.heap.size) := by show _ = _; simp [World.setCell]
                            clear hT
                            have OWA : Hid (((Wc.setCell ⟨w7.heap.size, 3, none⟩ (.int .i64 1)).alloc (.cells #[.int .i64 yi, .int .i64 (q : Int), .int .i64 T, .int .i64 1] 36)).ownsRow (w6.heap.size + 1) 36 4 (.slice ga gl gc) gl (kcells (G.map (callH S k)))) := by have h := (LSd.out.below (one_belowS _ (.cells #[.int .i64 yi, .int .i64 (q : Int), .int .i64 T, .int .i64 1] 36))).ow; rw [HGL.out] at h; exact h
                            cases last with
                            | true =>
                              go_wp2_with (at_builtin; refine wpList_append_own_at _ rfl _ _ 28 rfl (w6.heap.size + 1) 36 j0 (.agg #[.int .i64 0, .int .i64 0, .int .i64 0, .int .i64 0]) 4 32 Try.underlying28 hj0 jz0 jz1 jz2 rfl (by decide) (.slice ga gl gc) gl (kcells (G.map (callH S k))) rfl OWA.out ⟨Wc.heap.size, 0, none⟩ 1 1 (kcell ⟨yi, (q : Int), T, 1⟩) rfl rfl ?c1 ?c2 ?c3 ?c4 ?c5 ?_)
                              case c1 => first | exact fun j u h => h | (have h := news4 (x := ⟨yi, (q : Int), T, 1⟩) (alloc_cell (Wc.setCell ⟨w7.heap.size, 3, none⟩ (.int .i64 1)) #[.int .i64 yi, .int .i64 (q : Int), .int .i64 T, .int .i64 1] 36 0 rfl) (alloc_cell (Wc.setCell ⟨w7.heap.size, 3, none⟩ (.int .i64 1)) #[.int .i64 yi, .int .i64 (q : Int), .int .i64 T, .int .i64 1] 36 1 rfl) (alloc_cell (Wc.setCell ⟨w7.heap.size, 3, none⟩ (.int .i64 1)) #[.int .i64 yi, .int .i64 (q : Int), .int .i64 T, .int .i64 1] 36 2 rfl) (alloc_cell (Wc.setCell ⟨w7.heap.size, 3, none⟩ (.int .i64 1)) #[.int .i64 yi, .int .i64 (q : Int), .int .i64 T, .int .i64 1] 36 3 rfl); rw [SZ.out] at h; exact h)
                              case c2 => exact kcell_one _
                              case c3 => unfold maxLen; omega
                              case c4 => omega
                              case c5 => exact (LSd.out.below (one_belowS _ _)).sz
                              intro v2 w9 own9 grow9 _ hat9
                              have K9 : Hid (∀ b, b ≠ w7.heap.size → b < Wc.heap.size → (∀ b', (Value.slice ga gl gc).ownBlock = some b' → b' ≠ b) → w9.heap[b]? = Wc.heap[b]?) := fun b h1 h2 h3 => (grow9.block b (by have := SZ.out; simp; omega) (fun e => h3 b e.symm rfl)).trans ((Below.heap_alloc _ _ _ (by have := SZ.out; omega)).trans (KB.out b h1))
                              have LSa : Hid (LoopS w6 ((Wc.setCell ⟨w7.heap.size, 3, none⟩ (.int .i64 1)).alloc (.cells #[.int .i64 yi, .int .i64 (q : Int), .int .i64 T, .int .i64 1] 36)) S k (.slice ga gl gc) G) := LSd.out.below (one_belowS _ _)
                              have mk9 : MarksAt w9 w6.heap.size gl (fun y => decide (y ∈ G.map Hr.id)) := by have h := LSa.out.mp.kept (grow9.block _ LSa.out.mp.lt (fun e => by have h2 := (LSa.out.ow.lt _ e.symm).1; omega)); rw [HGL.out] at h; exact h
                              obtain ⟨w10, hput, mk10, gr10⟩ := mk9.put (t := 62) Try.underlying62 (by unfold maxLen; omega) (k := yi) hwf true
                              have LSn : Hid (LoopS w6 w10 S k v2 (G ++ [⟨(q : Int), true, yo, ys, yi⟩])) := by refine LoopS.more LSa.out ?_ grow9 ?_ gr10; (· rw [CF.out, HGL.out]; exact own9); (· rw [HGL.out]; exact mk10)
                              have j4 : w9.cell? ⟨wr.heap.size, 4, none⟩ = some (.int .i64 yi) := (cell_keptF (K9.out _ n1 s2 (fun b hb => by have := OBw.out b hb; omega))).trans e4
                              have j3 : w10.cell? ⟨wr.heap.size, 3, none⟩ = some (.bool ys) := gr10.cell (a := ⟨wr.heap.size, 3, none⟩) ((cell_keptF (K9.out _ n1 s2 (fun b hb => by have := OBw.out b hb; omega))).trans e3) (by intro e; have e2 : wr.heap.size = w6.heap.size := Option.some.inj e; omega)
                              have i0' : w10.cell? ⟨V.heap.size, 0, none⟩ = some (.int .i64 (q : Int)) := gr10.cell (a := ⟨V.heap.size, 0, none⟩) ((cell_keptF (K9.out _ n2 s3 (fun b hb => OB2.out b hb))).trans h0) (by intro e; have e2 : V.heap.size = w6.heap.size := Option.some.inj e; omega)
                              have i1' : w10.cell? ⟨V.heap.size, 1, none⟩ = some (.bool true) := gr10.cell (a := ⟨V.heap.size, 1, none⟩) ((cell_keptF (K9.out _ n2 s3 (fun b hb => OB2.out b hb))).trans h1) (by intro e; have e2 : V.heap.size = w6.heap.size := Option.some.inj e; omega)
                              have OBn : Hid (∀ b, v2.ownBlock = some b → b ≠ V.heap.size) := fun b hb => by
                                rcases hat9 with h | h
                                · exact OB2.out b (h ▸ hb)
                                · rw [h] at hb; have e2 : _ = b := Option.some.inj hb; have := SZ.out; first | omega | (simp only [World.size_alloc] at e2; omega)
                              obtain ⟨va2, vc2, hv2⟩ : ∃ va vc, v2 = .slice va (gl + 1) vc := by
                                rcases own9.2 with ⟨e, e0⟩ | ⟨g5, cap5, cur5, e, _⟩
                                · exact ⟨none, 0, by rw [e, e0]⟩
                                · exact ⟨_, cap5, e⟩
                              subst hv2
                              clear own9 grow9 hat9 mk9 mk10 gr10 K9 LSa OWA LSd KB r0' r1' r2' r3' f3 hx
                              go_wp2_with fail
                              go_roundg (m - (j + 1))
                              case measure => omega
                              case rel => exact ⟨j + 1, by omega, by omega, by go_num, by rw [HH2.out, HY2.out, List.any_append, HLAST.out]; simp, i0', i1', OBn, (by rw [HH2.out, HY2.out, ← List.append_assoc, HG.out]; exact LSn.out)⟩
                            | false =>
                              go_wp2_with (at_builtin; refine wpList_append_own_at _ rfl _ _ 28 rfl (w6.heap.size + 1) 36 j0 (.agg #[.int .i64 0, .int .i64 0, .int .i64 0, .int .i64 0]) 4 32 Try.underlying28 hj0 jz0 jz1 jz2 rfl (by decide) (.slice ga gl gc) gl (kcells (G.map (callH S k))) rfl OWA.out ⟨Wc.heap.size, 0, none⟩ 1 1 (kcell ⟨yi, (q : Int), T, 1⟩) rfl rfl ?c1 ?c2 ?c3 ?c4 ?c5 ?_)
                              case c1 => first | exact fun j u h => h | (have h := news4 (x := ⟨yi, (q : Int), T, 1⟩) (alloc_cell (Wc.setCell ⟨w7.heap.size, 3, none⟩ (.int .i64 1)) #[.int .i64 yi, .int .i64 (q : Int), .int .i64 T, .int .i64 1] 36 0 rfl) (alloc_cell (Wc.setCell ⟨w7.heap.size, 3, none⟩ (.int .i64 1)) #[.int .i64 yi, .int .i64 (q : Int), .int .i64 T, .int .i64 1] 36 1 rfl) (alloc_cell (Wc.setCell ⟨w7.heap.size, 3, none⟩ (.int .i64 1)) #[.int .i64 yi, .int .i64 (q : Int), .int .i64 T, .int .i64 1] 36 2 rfl) (alloc_cell (Wc.setCell ⟨w7.heap.size, 3, none⟩ (.int .i64 1)) #[.int .i64 yi, .int .i64 (q : Int), .int .i64 T, .int .i64 1] 36 3 rfl); rw [SZ.out] at h; exact h)
                              case c2 => exact kcell_one _
                              case c3 => unfold maxLen; omega
                              case c4 => omega
                              case c5 => exact (LSd.out.below (one_belowS _ _)).sz
                              intro v2 w9 own9 grow9 _ hat9
                              have K9 : Hid (∀ b, b ≠ w7.heap.size → b < Wc.heap.size → (∀ b', (Value.slice ga gl gc).ownBlock = some b' → b' ≠ b) → w9.heap[b]? = Wc.heap[b]?) := fun b h1 h2 h3 => (grow9.block b (by have := SZ.out; simp; omega) (fun e => h3 b e.symm rfl)).trans ((Below.heap_alloc _ _ _ (by have := SZ.out; omega)).trans (KB.out b h1))
                              have LSa : Hid (LoopS w6 ((Wc.setCell ⟨w7.heap.size, 3, none⟩ (.int .i64 1)).alloc (.cells #[.int .i64 yi, .int .i64 (q : Int), .int .i64 T, .int .i64 1] 36)) S k (.slice ga gl gc) G) := LSd.out.below (one_belowS _ _)
                              have mk9 : MarksAt w9 w6.heap.size gl (fun y => decide (y ∈ G.map Hr.id)) := by have h := LSa.out.mp.kept (grow9.block _ LSa.out.mp.lt (fun e => by have h2 := (LSa.out.ow.lt _ e.symm).1; omega)); rw [HGL.out] at h; exact h
                              obtain ⟨w10, hput, mk10, gr10⟩ := mk9.put (t := 62) Try.underlying62 (by unfold maxLen; omega) (k := yi) hwf true
                              have LSn : Hid (LoopS w6 w10 S k v2 (G ++ [⟨(q : Int), true, yo, ys, yi⟩])) := by refine LoopS.more LSa.out ?_ grow9 ?_ gr10; (· rw [CF.out, HGL.out]; exact own9); (· rw [HGL.out]; exact mk10)
                              have j4 : w9.cell? ⟨wr.heap.size, 4, none⟩ = some (.int .i64 yi) := (cell_keptF (K9.out _ n1 s2 (fun b hb => by have := OBw.out b hb; omega))).trans e4
                              have j3 : w10.cell? ⟨wr.heap.size, 3, none⟩ = some (.bool ys) := gr10.cell (a := ⟨wr.heap.size, 3, none⟩) ((cell_keptF (K9.out _ n1 s2 (fun b hb => by have := OBw.out b hb; omega))).trans e3) (by intro e; have e2 : wr.heap.size = w6.heap.size := Option.some.inj e; omega)
                              have i0' : w10.cell? ⟨V.heap.size, 0, none⟩ = some (.int .i64 (q : Int)) := gr10.cell (a := ⟨V.heap.size, 0, none⟩) ((cell_keptF (K9.out _ n2 s3 (fun b hb => OB2.out b hb))).trans h0) (by intro e; have e2 : V.heap.size = w6.heap.size := Option.some.inj e; omega)
                              have i1' : w10.cell? ⟨V.heap.size, 1, none⟩ = some (.bool true) := gr10.cell (a := ⟨V.heap.size, 1, none⟩) ((cell_keptF (K9.out _ n2 s3 (fun b hb => OB2.out b hb))).trans h1) (by intro e; have e2 : V.heap.size = w6.heap.size := Option.some.inj e; omega)
                              have OBn : Hid (∀ b, v2.ownBlock = some b → b ≠ V.heap.size) := fun b hb => by
                                rcases hat9 with h | h
                                · exact OB2.out b (h ▸ hb)
                                · rw [h] at hb; have e2 : _ = b := Option.some.inj hb; have := SZ.out; first | omega | (simp only [World.size_alloc] at e2; omega)
                              obtain ⟨va2, vc2, hv2⟩ : ∃ va vc, v2 = .slice va (gl + 1) vc := by
                                rcases own9.2 with ⟨e, e0⟩ | ⟨g5, cap5, cur5, e, _⟩
                                · exact ⟨none, 0, by rw [e, e0]⟩
                                · exact ⟨_, cap5, e⟩
                              subst hv2
                              clear own9 grow9 hat9 mk9 mk10 gr10 K9 LSa OWA LSd KB r0' r1' r2' r3' f3 hx
                              go_wp2_with fail
                              go_roundg (m - (j + 1))
                              case measure => omega
                              case rel => exact ⟨j + 1, by omega, by omega, by go_num, by rw [HH2.out, HY2.out, List.any_append, HLAST.out]; simp, i0', i1', OBn, (by rw [HH2.out, HY2.out, ← List.append_assoc, HG.out]; exact LSn.out)⟩
                        | false =>
                          by_cases hT : T = (q : Int)
                          · have hd : decide (T = (q : Int)) = true := decide_eq_true hT
                            have hd2 : (T == (q : Int)) = true := by simp [hT]
                            have CF : Hid (callH S k ⟨(q : Int), false, yo, ys, yi⟩ = ⟨yi, (q : Int), T, 2⟩) := by show _ = _; rw [CALF.out]; unfold phaseF; rw [if_pos hT]
                            have LSd : Hid (LoopS w6 (Wc.setCell ⟨w7.heap.size, 3, none⟩ (.int .i64 2)) S k (.slice ga gl gc) G) := (LSc.out.set (cb := w7.heap.size) (o := 3) (.int .i64 2) hcw OBc.out)
                            have KB : Hid (∀ b, b ≠ w7.heap.size → (Wc.setCell ⟨w7.heap.size, 3, none⟩ (.int .i64 2)).heap[b]? = Wc.heap[b]?) := fun b hb => Below.heap_setCell _ _ _ _ hb
                            have SZ : Hid ((Wc.setCell ⟨w7.heap.size, 3, none⟩ (.int .i64 2)).heap.size = Wc.heap.size) := by show _ = _; simp [World.setCell]
                            clear hT
                            have OWA : Hid (((Wc.setCell ⟨w7.heap.size, 3, none⟩ (.int .i64 2)).alloc (.cells #[.int .i64 yi, .int .i64 (q : Int), .int .i64 T, .int .i64 2] 36)).ownsRow (w6.heap.size + 1) 36 4 (.slice ga gl gc) gl (kcells (G.map (callH S k)))) := by have h := (LSd.out.below (one_belowS _ (.cells #[.int .i64 yi, .int .i64 (q : Int), .int .i64 T, .int .i64 2] 36))).ow; rw [HGL.out] at h; exact h
                            cases last with
                            | true =>
                              go_wp2_with (at_builtin; refine wpList_append_own_at _ rfl _ _ 28 rfl (w6.heap.size + 1) 36 j0 (.agg #[.int .i64 0, .int .i64 0, .int .i64 0, .int .i64 0]) 4 32 Try.underlying28 hj0 jz0 jz1 jz2 rfl (by decide) (.slice ga gl gc) gl (kcells (G.map (callH S k))) rfl OWA.out ⟨Wc.heap.size, 0, none⟩ 1 1 (kcell ⟨yi, (q : Int), T, 2⟩) rfl rfl ?c1 ?c2 ?c3 ?c4 ?c5 ?_)
                              case c1 => first | exact fun j u h => h | (have h := news4 (x := ⟨yi, (q : Int), T, 2⟩) (alloc_cell (Wc.setCell ⟨w7.heap.size, 3, none⟩ (.int .i64 2)) #[.int .i64 yi, .int .i64 (q : Int), .int .i64 T, .int .i64 2] 36 0 rfl) (alloc_cell (Wc.setCell ⟨w7.heap.size, 3, none⟩ (.int .i64 2)) #[.int .i64 yi, .int .i64 (q : Int), .int .i64 T, .int .i64 2] 36 1 rfl) (alloc_cell (Wc.setCell ⟨w7.heap.size, 3, none⟩ (.int .i64 2)) #[.int .i64 yi, .int .i64 (q : Int), .int .i64 T, .int .i64 2] 36 2 rfl) (alloc_cell (Wc.setCell ⟨w7.heap.size, 3, none⟩ (.int .i64 2)) #[.int .i64 yi, .int .i64 (q : Int), .int .i64 T, .int .i64 2] 36 3 rfl); rw [SZ.out] at h; exact h)
                              case c2 => exact kcell_one _
                              case c3 => unfold maxLen; omega
                              case c4 => omega
                              case c5 => exact (LSd.out.below (one_belowS _ _)).sz
                              intro v2 w9 own9 grow9 _ hat9
                              have K9 : Hid (∀ b, b ≠ w7.heap.size → b < Wc.heap.size → (∀ b', (Value.slice ga gl gc).ownBlock = some b' → b' ≠ b) → w9.heap[b]? = Wc.heap[b]?) := fun b h1 h2 h3 => (grow9.block b (by have := SZ.out; simp; omega) (fun e => h3 b e.symm rfl)).trans ((Below.heap_alloc _ _ _ (by have := SZ.out; omega)).trans (KB.out b h1))
                              have LSa : Hid (LoopS w6 ((Wc.setCell ⟨w7.heap.size, 3, none⟩ (.int .i64 2)).alloc (.cells #[.int .i64 yi, .int .i64 (q : Int), .int .i64 T, .int .i64 2] 36)) S k (.slice ga gl gc) G) := LSd.out.below (one_belowS _ _)
                              have mk9 : MarksAt w9 w6.heap.size gl (fun y => decide (y ∈ G.map Hr.id)) := by have h := LSa.out.mp.kept (grow9.block _ LSa.out.mp.lt (fun e => by have h2 := (LSa.out.ow.lt _ e.symm).1; omega)); rw [HGL.out] at h; exact h
                              obtain ⟨w10, hput, mk10, gr10⟩ := mk9.put (t := 62) Try.underlying62 (by unfold maxLen; omega) (k := yi) hwf true
                              have LSn : Hid (LoopS w6 w10 S k v2 (G ++ [⟨(q : Int), false, yo, ys, yi⟩])) := by refine LoopS.more LSa.out ?_ grow9 ?_ gr10; (· rw [CF.out, HGL.out]; exact own9); (· rw [HGL.out]; exact mk10)
                              have j4 : w9.cell? ⟨wr.heap.size, 4, none⟩ = some (.int .i64 yi) := (cell_keptF (K9.out _ n1 s2 (fun b hb => by have := OBw.out b hb; omega))).trans e4
                              have j3 : w10.cell? ⟨wr.heap.size, 3, none⟩ = some (.bool ys) := gr10.cell (a := ⟨wr.heap.size, 3, none⟩) ((cell_keptF (K9.out _ n1 s2 (fun b hb => by have := OBw.out b hb; omega))).trans e3) (by intro e; have e2 : wr.heap.size = w6.heap.size := Option.some.inj e; omega)
                              have i0' : w10.cell? ⟨V.heap.size, 0, none⟩ = some (.int .i64 (q : Int)) := gr10.cell (a := ⟨V.heap.size, 0, none⟩) ((cell_keptF (K9.out _ n2 s3 (fun b hb => OB2.out b hb))).trans h0) (by intro e; have e2 : V.heap.size = w6.heap.size := Option.some.inj e; omega)
                              have i1' : w10.cell? ⟨V.heap.size, 1, none⟩ = some (.bool false) := gr10.cell (a := ⟨V.heap.size, 1, none⟩) ((cell_keptF (K9.out _ n2 s3 (fun b hb => OB2.out b hb))).trans h1) (by intro e; have e2 : V.heap.size = w6.heap.size := Option.some.inj e; omega)
                              have OBn : Hid (∀ b, v2.ownBlock = some b → b ≠ V.heap.size) := fun b hb => by
                                rcases hat9 with h | h
                                · exact OB2.out b (h ▸ hb)
                                · rw [h] at hb; have e2 : _ = b := Option.some.inj hb; have := SZ.out; first | omega | (simp only [World.size_alloc] at e2; omega)
                              obtain ⟨va2, vc2, hv2⟩ : ∃ va vc, v2 = .slice va (gl + 1) vc := by
                                rcases own9.2 with ⟨e, e0⟩ | ⟨g5, cap5, cur5, e, _⟩
                                · exact ⟨none, 0, by rw [e, e0]⟩
                                · exact ⟨_, cap5, e⟩
                              subst hv2
                              clear own9 grow9 hat9 mk9 mk10 gr10 K9 LSa OWA LSd KB r0' r1' r2' r3' f3 hx
                              go_wp2_with fail
                              go_roundg (m - (j + 1))
                              case measure => omega
                              case rel => exact ⟨j + 1, by omega, by omega, by go_num, by rw [HH2.out, HY2.out, List.any_append, HLAST.out]; simp, i0', i1', OBn, (by rw [HH2.out, HY2.out, ← List.append_assoc, HG.out]; exact LSn.out)⟩
                            | false =>
                              go_wp2_with (at_builtin; refine wpList_append_own_at _ rfl _ _ 28 rfl (w6.heap.size + 1) 36 j0 (.agg #[.int .i64 0, .int .i64 0, .int .i64 0, .int .i64 0]) 4 32 Try.underlying28 hj0 jz0 jz1 jz2 rfl (by decide) (.slice ga gl gc) gl (kcells (G.map (callH S k))) rfl OWA.out ⟨Wc.heap.size, 0, none⟩ 1 1 (kcell ⟨yi, (q : Int), T, 2⟩) rfl rfl ?c1 ?c2 ?c3 ?c4 ?c5 ?_)
                              case c1 => first | exact fun j u h => h | (have h := news4 (x := ⟨yi, (q : Int), T, 2⟩) (alloc_cell (Wc.setCell ⟨w7.heap.size, 3, none⟩ (.int .i64 2)) #[.int .i64 yi, .int .i64 (q : Int), .int .i64 T, .int .i64 2] 36 0 rfl) (alloc_cell (Wc.setCell ⟨w7.heap.size, 3, none⟩ (.int .i64 2)) #[.int .i64 yi, .int .i64 (q : Int), .int .i64 T, .int .i64 2] 36 1 rfl) (alloc_cell (Wc.setCell ⟨w7.heap.size, 3, none⟩ (.int .i64 2)) #[.int .i64 yi, .int .i64 (q : Int), .int .i64 T, .int .i64 2] 36 2 rfl) (alloc_cell (Wc.setCell ⟨w7.heap.size, 3, none⟩ (.int .i64 2)) #[.int .i64 yi, .int .i64 (q : Int), .int .i64 T, .int .i64 2] 36 3 rfl); rw [SZ.out] at h; exact h)
                              case c2 => exact kcell_one _
                              case c3 => unfold maxLen; omega
                              case c4 => omega
                              case c5 => exact (LSd.out.below (one_belowS _ _)).sz
                              intro v2 w9 own9 grow9 _ hat9
                              have K9 : Hid (∀ b, b ≠ w7.heap.size → b < Wc.heap.size → (∀ b', (Value.slice ga gl gc).ownBlock = some b' → b' ≠ b) → w9.heap[b]? = Wc.heap[b]?) := fun b h1 h2 h3 => (grow9.block b (by have := SZ.out; simp; omega) (fun e => h3 b e.symm rfl)).trans ((Below.heap_alloc _ _ _ (by have := SZ.out; omega)).trans (KB.out b h1))
                              have LSa : Hid (LoopS w6 ((Wc.setCell ⟨w7.heap.size, 3, none⟩ (.int .i64 2)).alloc (.cells #[.int .i64 yi, .int .i64 (q : Int), .int .i64 T, .int .i64 2] 36)) S k (.slice ga gl gc) G) := LSd.out.below (one_belowS _ _)
                              have mk9 : MarksAt w9 w6.heap.size gl (fun y => decide (y ∈ G.map Hr.id)) := by have h := LSa.out.mp.kept (grow9.block _ LSa.out.mp.lt (fun e => by have h2 := (LSa.out.ow.lt _ e.symm).1; omega)); rw [HGL.out] at h; exact h
                              obtain ⟨w10, hput, mk10, gr10⟩ := mk9.put (t := 62) Try.underlying62 (by unfold maxLen; omega) (k := yi) hwf true
                              have LSn : Hid (LoopS w6 w10 S k v2 (G ++ [⟨(q : Int), false, yo, ys, yi⟩])) := by refine LoopS.more LSa.out ?_ grow9 ?_ gr10; (· rw [CF.out, HGL.out]; exact own9); (· rw [HGL.out]; exact mk10)
                              have j4 : w9.cell? ⟨wr.heap.size, 4, none⟩ = some (.int .i64 yi) := (cell_keptF (K9.out _ n1 s2 (fun b hb => by have := OBw.out b hb; omega))).trans e4
                              have j3 : w10.cell? ⟨wr.heap.size, 3, none⟩ = some (.bool ys) := gr10.cell (a := ⟨wr.heap.size, 3, none⟩) ((cell_keptF (K9.out _ n1 s2 (fun b hb => by have := OBw.out b hb; omega))).trans e3) (by intro e; have e2 : wr.heap.size = w6.heap.size := Option.some.inj e; omega)
                              have i0' : w10.cell? ⟨V.heap.size, 0, none⟩ = some (.int .i64 (q : Int)) := gr10.cell (a := ⟨V.heap.size, 0, none⟩) ((cell_keptF (K9.out _ n2 s3 (fun b hb => OB2.out b hb))).trans h0) (by intro e; have e2 : V.heap.size = w6.heap.size := Option.some.inj e; omega)
                              have i1' : w10.cell? ⟨V.heap.size, 1, none⟩ = some (.bool false) := gr10.cell (a := ⟨V.heap.size, 1, none⟩) ((cell_keptF (K9.out _ n2 s3 (fun b hb => OB2.out b hb))).trans h1) (by intro e; have e2 : V.heap.size = w6.heap.size := Option.some.inj e; omega)
                              have OBn : Hid (∀ b, v2.ownBlock = some b → b ≠ V.heap.size) := fun b hb => by
                                rcases hat9 with h | h
                                · exact OB2.out b (h ▸ hb)
                                · rw [h] at hb; have e2 : _ = b := Option.some.inj hb; have := SZ.out; first | omega | (simp only [World.size_alloc] at e2; omega)
                              obtain ⟨va2, vc2, hv2⟩ : ∃ va vc, v2 = .slice va (gl + 1) vc := by
                                rcases own9.2 with ⟨e, e0⟩ | ⟨g5, cap5, cur5, e, _⟩
                                · exact ⟨none, 0, by rw [e, e0]⟩
                                · exact ⟨_, cap5, e⟩
                              subst hv2
                              clear own9 grow9 hat9 mk9 mk10 gr10 K9 LSa OWA LSd KB r0' r1' r2' r3' f3 hx
                              go_wp2_with fail
                              go_roundg (m - (j + 1))
                              case measure => omega
                              case rel => exact ⟨j + 1, by omega, by omega, by go_num, by rw [HH2.out, HY2.out, List.any_append, HLAST.out]; simp, i0', i1', OBn, (by rw [HH2.out, HY2.out, ← List.append_assoc, HG.out]; exact LSn.out)⟩
                          · have hd : decide (T = (q : Int)) = false := decide_eq_false hT
                            have hd2 : (T == (q : Int)) = false := by simp [hT]
                            have CF : Hid (callH S k ⟨(q : Int), false, yo, ys, yi⟩ = ⟨yi, (q : Int), T, 3⟩) := by show _ = _; rw [CALF.out]; unfold phaseF; rw [if_neg hT]; rfl
                            have LSd : Hid (LoopS w6 Wc S k (.slice ga gl gc) G) := LSc.out
                            clear hT
                            have OWA : Hid ((Wc.alloc (.cells #[.int .i64 yi, .int .i64 (q : Int), .int .i64 T, .int .i64 3] 36)).ownsRow (w6.heap.size + 1) 36 4 (.slice ga gl gc) gl (kcells (G.map (callH S k)))) := by have h := (LSd.out.below (one_belowS _ (.cells #[.int .i64 yi, .int .i64 (q : Int), .int .i64 T, .int .i64 3] 36))).ow; rw [HGL.out] at h; exact h
                            cases last with
                            | true =>
                              go_wp2_with (at_builtin; refine wpList_append_own_at _ rfl _ _ 28 rfl (w6.heap.size + 1) 36 j0 (.agg #[.int .i64 0, .int .i64 0, .int .i64 0, .int .i64 0]) 4 32 Try.underlying28 hj0 jz0 jz1 jz2 rfl (by decide) (.slice ga gl gc) gl (kcells (G.map (callH S k))) rfl OWA.out ⟨Wc.heap.size, 0, none⟩ 1 1 (kcell ⟨yi, (q : Int), T, 3⟩) rfl rfl ?c1 ?c2 ?c3 ?c4 ?c5 ?_)
                              case c1 => first | exact fun j u h => h | (have h := news4 (x := ⟨yi, (q : Int), T, 3⟩) (alloc_cell Wc #[.int .i64 yi, .int .i64 (q : Int), .int .i64 T, .int .i64 3] 36 0 rfl) (alloc_cell Wc #[.int .i64 yi, .int .i64 (q : Int), .int .i64 T, .int .i64 3] 36 1 rfl) (alloc_cell Wc #[.int .i64 yi, .int .i64 (q : Int), .int .i64 T, .int .i64 3] 36 2 rfl) (alloc_cell Wc #[.int .i64 yi, .int .i64 (q : Int), .int .i64 T, .int .i64 3] 36 3 rfl); exact h)
                              case c2 => exact kcell_one _
                              case c3 => unfold maxLen; omega
                              case c4 => omega
                              case c5 => exact (LSd.out.below (one_belowS _ _)).sz
                              intro v2 w9 own9 grow9 _ hat9
                              have K9 : Hid (∀ b, b ≠ w7.heap.size → b < Wc.heap.size → (∀ b', (Value.slice ga gl gc).ownBlock = some b' → b' ≠ b) → w9.heap[b]? = Wc.heap[b]?) := fun b h1 h2 h3 => (grow9.block b (by simp; omega) (fun e => h3 b e.symm rfl)).trans ((Below.heap_alloc _ _ _ (by omega)))
                              have LSa : Hid (LoopS w6 (Wc.alloc (.cells #[.int .i64 yi, .int .i64 (q : Int), .int .i64 T, .int .i64 3] 36)) S k (.slice ga gl gc) G) := LSd.out.below (one_belowS _ _)
                              have mk9 : MarksAt w9 w6.heap.size gl (fun y => decide (y ∈ G.map Hr.id)) := by have h := LSa.out.mp.kept (grow9.block _ LSa.out.mp.lt (fun e => by have h2 := (LSa.out.ow.lt _ e.symm).1; omega)); rw [HGL.out] at h; exact h
                              obtain ⟨w10, hput, mk10, gr10⟩ := mk9.put (t := 62) Try.underlying62 (by unfold maxLen; omega) (k := yi) hwf true
                              have LSn : Hid (LoopS w6 w10 S k v2 (G ++ [⟨(q : Int), false, yo, ys, yi⟩])) := by refine LoopS.more LSa.out ?_ grow9 ?_ gr10; (· rw [CF.out, HGL.out]; exact own9); (· rw [HGL.out]; exact mk10)
                              have j4 : w9.cell? ⟨wr.heap.size, 4, none⟩ = some (.int .i64 yi) := (cell_keptF (K9.out _ n1 s2 (fun b hb => by have := OBw.out b hb; omega))).trans e4
                              have j3 : w10.cell? ⟨wr.heap.size, 3, none⟩ = some (.bool ys) := gr10.cell (a := ⟨wr.heap.size, 3, none⟩) ((cell_keptF (K9.out _ n1 s2 (fun b hb => by have := OBw.out b hb; omega))).trans e3) (by intro e; have e2 : wr.heap.size = w6.heap.size := Option.some.inj e; omega)
                              have i0' : w10.cell? ⟨V.heap.size, 0, none⟩ = some (.int .i64 (q : Int)) := gr10.cell (a := ⟨V.heap.size, 0, none⟩) ((cell_keptF (K9.out _ n2 s3 (fun b hb => OB2.out b hb))).trans h0) (by intro e; have e2 : V.heap.size = w6.heap.size := Option.some.inj e; omega)
                              have i1' : w10.cell? ⟨V.heap.size, 1, none⟩ = some (.bool false) := gr10.cell (a := ⟨V.heap.size, 1, none⟩) ((cell_keptF (K9.out _ n2 s3 (fun b hb => OB2.out b hb))).trans h1) (by intro e; have e2 : V.heap.size = w6.heap.size := Option.some.inj e; omega)
                              have OBn : Hid (∀ b, v2.ownBlock = some b → b ≠ V.heap.size) := fun b hb => by
                                rcases hat9 with h | h
                                · exact OB2.out b (h ▸ hb)
                                · rw [h] at hb; have e2 : _ = b := Option.some.inj hb; first | omega | (simp only [World.size_alloc] at e2; omega)
                              obtain ⟨va2, vc2, hv2⟩ : ∃ va vc, v2 = .slice va (gl + 1) vc := by
                                rcases own9.2 with ⟨e, e0⟩ | ⟨g5, cap5, cur5, e, _⟩
                                · exact ⟨none, 0, by rw [e, e0]⟩
                                · exact ⟨_, cap5, e⟩
                              subst hv2
                              clear own9 grow9 hat9 mk9 mk10 gr10 K9 LSa OWA LSd r0' r1' r2' r3' f3 hx
                              go_wp2_with fail
                              go_roundg (m - (j + 1))
                              case measure => omega
                              case rel => exact ⟨j + 1, by omega, by omega, by go_num, by rw [HH2.out, HY2.out, List.any_append, HLAST.out]; simp, i0', i1', OBn, (by rw [HH2.out, HY2.out, ← List.append_assoc, HG.out]; exact LSn.out)⟩
                            | false =>
                              go_wp2_with (at_builtin; refine wpList_append_own_at _ rfl _ _ 28 rfl (w6.heap.size + 1) 36 j0 (.agg #[.int .i64 0, .int .i64 0, .int .i64 0, .int .i64 0]) 4 32 Try.underlying28 hj0 jz0 jz1 jz2 rfl (by decide) (.slice ga gl gc) gl (kcells (G.map (callH S k))) rfl OWA.out ⟨Wc.heap.size, 0, none⟩ 1 1 (kcell ⟨yi, (q : Int), T, 3⟩) rfl rfl ?c1 ?c2 ?c3 ?c4 ?c5 ?_)
                              case c1 => first | exact fun j u h => h | (have h := news4 (x := ⟨yi, (q : Int), T, 3⟩) (alloc_cell Wc #[.int .i64 yi, .int .i64 (q : Int), .int .i64 T, .int .i64 3] 36 0 rfl) (alloc_cell Wc #[.int .i64 yi, .int .i64 (q : Int), .int .i64 T, .int .i64 3] 36 1 rfl) (alloc_cell Wc #[.int .i64 yi, .int .i64 (q : Int), .int .i64 T, .int .i64 3] 36 2 rfl) (alloc_cell Wc #[.int .i64 yi, .int .i64 (q : Int), .int .i64 T, .int .i64 3] 36 3 rfl); exact h)
                              case c2 => exact kcell_one _
                              case c3 => unfold maxLen; omega
                              case c4 => omega
                              case c5 => exact (LSd.out.below (one_belowS _ _)).sz
                              intro v2 w9 own9 grow9 _ hat9
                              have K9 : Hid (∀ b, b ≠ w7.heap.size → b < Wc.heap.size → (∀ b', (Value.slice ga gl gc).ownBlock = some b' → b' ≠ b) → w9.heap[b]? = Wc.heap[b]?) := fun b h1 h2 h3 => (grow9.block b (by simp; omega) (fun e => h3 b e.symm rfl)).trans ((Below.heap_alloc _ _ _ (by omega)))
                              have LSa : Hid (LoopS w6 (Wc.alloc (.cells #[.int .i64 yi, .int .i64 (q : Int), .int .i64 T, .int .i64 3] 36)) S k (.slice ga gl gc) G) := LSd.out.below (one_belowS _ _)
                              have mk9 : MarksAt w9 w6.heap.size gl (fun y => decide (y ∈ G.map Hr.id)) := by have h := LSa.out.mp.kept (grow9.block _ LSa.out.mp.lt (fun e => by have h2 := (LSa.out.ow.lt _ e.symm).1; omega)); rw [HGL.out] at h; exact h
                              obtain ⟨w10, hput, mk10, gr10⟩ := mk9.put (t := 62) Try.underlying62 (by unfold maxLen; omega) (k := yi) hwf true
                              have LSn : Hid (LoopS w6 w10 S k v2 (G ++ [⟨(q : Int), false, yo, ys, yi⟩])) := by refine LoopS.more LSa.out ?_ grow9 ?_ gr10; (· rw [CF.out, HGL.out]; exact own9); (· rw [HGL.out]; exact mk10)
                              have j4 : w9.cell? ⟨wr.heap.size, 4, none⟩ = some (.int .i64 yi) := (cell_keptF (K9.out _ n1 s2 (fun b hb => by have := OBw.out b hb; omega))).trans e4
                              have j3 : w10.cell? ⟨wr.heap.size, 3, none⟩ = some (.bool ys) := gr10.cell (a := ⟨wr.heap.size, 3, none⟩) ((cell_keptF (K9.out _ n1 s2 (fun b hb => by have := OBw.out b hb; omega))).trans e3) (by intro e; have e2 : wr.heap.size = w6.heap.size := Option.some.inj e; omega)
                              have i0' : w10.cell? ⟨V.heap.size, 0, none⟩ = some (.int .i64 (q : Int)) := gr10.cell (a := ⟨V.heap.size, 0, none⟩) ((cell_keptF (K9.out _ n2 s3 (fun b hb => OB2.out b hb))).trans h0) (by intro e; have e2 : V.heap.size = w6.heap.size := Option.some.inj e; omega)
                              have i1' : w10.cell? ⟨V.heap.size, 1, none⟩ = some (.bool false) := gr10.cell (a := ⟨V.heap.size, 1, none⟩) ((cell_keptF (K9.out _ n2 s3 (fun b hb => OB2.out b hb))).trans h1) (by intro e; have e2 : V.heap.size = w6.heap.size := Option.some.inj e; omega)
                              have OBn : Hid (∀ b, v2.ownBlock = some b → b ≠ V.heap.size) := fun b hb => by
                                rcases hat9 with h | h
                                · exact OB2.out b (h ▸ hb)
                                · rw [h] at hb; have e2 : _ = b := Option.some.inj hb; first | omega | (simp only [World.size_alloc] at e2; omega)
                              obtain ⟨va2, vc2, hv2⟩ : ∃ va vc, v2 = .slice va (gl + 1) vc := by
                                rcases own9.2 with ⟨e, e0⟩ | ⟨g5, cap5, cur5, e, _⟩
                                · exact ⟨none, 0, by rw [e, e0]⟩
                                · exact ⟨_, cap5, e⟩
                              subst hv2
                              clear own9 grow9 hat9 mk9 mk10 gr10 K9 LSa OWA LSd r0' r1' r2' r3' f3 hx
                              go_wp2_with fail
                              go_roundg (m - (j + 1))
                              case measure => omega
                              case rel => exact ⟨j + 1, by omega, by omega, by go_num, by rw [HH2.out, HY2.out, List.any_append, HLAST.out]; simp, i0', i1', OBn, (by rw [HH2.out, HY2.out, ← List.append_assoc, HG.out]; exact LSn.out)⟩
                    · have ef : (yd == xd) = false := beq_eq_false_iff_ne.2 e2
                      have HN2 : Hid (H2 = H) := NO.out (Or.inr e2)
                      subst e1
                      clear YES NO
                      go_wp2_with fail
                      go_roundg (m - (j + 1))
                      case measure => omega
                      case rel => exact ⟨j + 1, by omega, by omega, by go_num, by rw [HH2.out, HN2.out, HLAST.out], keepC v0 (one_belowS _ _), keepC v1 (one_belowS _ _), OB2, (by rw [HH2.out, HN2.out, HG.out]; exact LS.out.below (one_belowS _ _))⟩
                  · have ef : (yp == (q : Int)) = false := beq_eq_false_iff_ne.2 e1
                    have HN2 : Hid (H2 = H) := NO.out (Or.inl e1)
                    clear YES NO
                    go_wp2_with fail
                    go_roundg (m - (j + 1))
                    case measure => omega
                    case rel => exact ⟨j + 1, by omega, by omega, by go_num, by rw [HH2.out, HN2.out, HLAST.out], keepC v0 (one_belowS _ _), keepC v1 (one_belowS _ _), OB2, (by rw [HH2.out, HN2.out, HG.out]; exact LS.out.below (one_belowS _ _))⟩
                · have hje : m = j := by omega
                  have eL : L.take j = L := List.take_of_length_le (by rw [HM.out, hje]; exact Nat.le_refl _)
                  rw [eL] at LS OB2 ⊢
                  clear eL
                  subst hje
                  obtain ⟨last, hlast⟩ : ∃ z, (hearF L ((q : Int), xd)).any Hr.st = z := ⟨_, rfl⟩
                  have HLAST : Hid (stopS L ((q : Int), xd) = last) := hlast
                  rw [hlast]
                  clear hlast v0 v1 OB2
                  obtain ⟨gl, hgl⟩ : ∃ z, (F ++ hearF L ((q : Int), xd)).length = z := ⟨_, rfl⟩
                  have HGL : Hid ((F ++ hearF L ((q : Int), xd)).length = gl) := hgl
                  rw [hgl] at LS ⊢
                  clear hgl
                  cases last with
                  | true =>
                    have hTB := TB.out HLAST.out
                    obtain ⟨W5, hW5⟩ : ∃ W5, wr = W5 := ⟨_, rfl⟩
                    rw [hW5] at LS ⊢
                    clear hW5
                    have LSF : Hid (LoopS w6 W5 S k (.slice ga gl gc) (toldF L X)) := by rw [hTB]; exact LS.out
                    have HGL5 : Hid ((toldF L X).length = gl) := by rw [hTB]; exact HGL
                    clear hTB LS TB FS NS2 HGL
                    obtain ⟨g0i, hg0, gz0, gz1, gz2⟩ := info_parts infoHearer
                    obtain ⟨T0, hT0⟩ : ∃ T0, toldF L X = T0 := ⟨_, rfl⟩
                    rw [hT0] at LSF HGL5
                    have HT0 : Hid (toldF L (spotsF P) = T0) := by rw [HX.out]; exact hT0
                    clear hT0
                    have HB5 : Hid (Below w.heap.size w W5) := HB3.out.trans ((HB6.out.trans (LSF.out.b.mono HB6.out.size)).mono HB3.out.size)
                    have HLW : Hid (HrsAt W5 la L) := HL.out.below HB5.out
                    have LF0 : Hid (W5.ownsRow W5.heap.size 39 5 (.slice none 0 0) (leftF (L.take 0) (T0.map Hr.id)).length (hcells (leftF (L.take 0) (T0.map Hr.id)))) := World.ownsRow_nil _ _ _ _
                    have q5 : w6.heap.size < W5.heap.size := LSF.out.sz
                    go_wp2_with fail
                    go_loopg [23, 133] m (fun g s23 s133 wr => ∃ j : Nat, j ≤ m ∧ m - j ≤ g ∧ s133 = .int .i64 j ∧ Hid (Below W5.heap.size W5 wr) ∧ Hid (wr.ownsRow W5.heap.size 39 5 s23 (leftF (L.take j) (T0.map Hr.id)).length (hcells (leftF (L.take j) (T0.map Hr.id)))))
                    case atStart => exact ⟨0, by omega, by omega, rfl, Below.refl _ _, LF0⟩
                    case round =>
                      obtain ⟨j, hj5, hg5, rfl, HBr, OWN⟩ := hrel
                      clear LF0
                      obtain ⟨ha, hc2, rfl⟩ := hrs_form OWN.out
                      by_cases hlt5 : j < m
                      · have hj6 : (j : Int) < (m : Int) := by omega
                        have hjL : j < L.length := by rw [HM.out]; exact hlt5
                        obtain ⟨lb, lo, el, y0, y1, y2, y3, y4⟩ := (HLW.out.below HBr.out) j hjL
                        subst el
                        have hwf := BL.out j hjL
                        have LT : Hid (leftF (L.take (j + 1)) (T0.map Hr.id) = leftF (L.take j) (T0.map Hr.id) ++ (if (!((hr L j).on && decide ((hr L j).id ∈ T0.map Hr.id))) then [hr L j] else [])) := left_take hjL
                        have MP : Hid (MarksAt wr w6.heap.size T0.length (fun y => decide (y ∈ T0.map Hr.id))) := LSF.out.mp.kept (HBr.out.block _ LSF.out.mp.lt)
                        have hml : (leftF (L.take j) (T0.map Hr.id)).length ≤ 24 := by
                          have h1 : (leftF (L.take j) (T0.map Hr.id)).length ≤ (L.take j).length := List.length_filter_le _ _
                          have h2 : (L.take j).length ≤ L.length := by rw [List.length_take]; exact Nat.min_le_right _ _
                          have h3 := HM.out
                          omega
                        generalize hr L j = y at *
                        obtain ⟨yp, yd, yo, ys, yi⟩ := y
                        dsimp only at y0 y1 y2 y3 y4 hwf LT
                        obtain ⟨M2, hM2⟩ : ∃ M2, leftF (L.take (j + 1)) (T0.map Hr.id) = M2 := ⟨_, rfl⟩
                        have HM2 : Hid (leftF (L.take (j + 1)) (T0.map Hr.id) = M2) := hM2
                        rw [hM2] at LT
                        clear hM2
                        generalize leftF (L.take j) (T0.map Hr.id) = M at *
                        obtain ⟨ml, hmle⟩ : ∃ z, M.length = z := ⟨_, rfl⟩
                        have HML : Hid (M.length = ml) := hmle
                        rw [hmle] at OWN hml ⊢
                        clear hmle
                        obtain ⟨W9, hW9⟩ : ∃ W9, wr.alloc (.cells #[.int .i64 yp, .bool yd, .bool yo, .bool ys, .int .i64 yi] 39) = W9 := ⟨_, rfl⟩
                        have HB9 : Hid (Below W5.heap.size W5 W9) := by rw [← hW9]; exact HBr.out.alloc HBr.out.size _
                        have OW9 : Hid (W9.ownsRow W5.heap.size 39 5 (.slice ha ml hc2) ml (hcells M)) := by rw [← hW9]; exact OWN.out.alloc _
                        have MP9 : MarksAt W9 w6.heap.size T0.length (fun y => decide (y ∈ T0.map Hr.id)) := by rw [← hW9]; exact MP.out.kept (Below.heap_alloc _ _ _ MP.out.lt)
                        have hlook := MP9.look (t := 62) Try.underlying62 hwf
                        have a0 : W9.cell? ⟨wr.heap.size, 0, none⟩ = some (.int .i64 yp) := by rw [← hW9]; exact alloc_cell wr _ _ 0 rfl
                        have a1 : W9.cell? ⟨wr.heap.size, 1, none⟩ = some (.bool yd) := by rw [← hW9]; exact alloc_cell wr _ _ 1 rfl
                        have a2 : W9.cell? ⟨wr.heap.size, 2, none⟩ = some (.bool yo) := by rw [← hW9]; exact alloc_cell wr _ _ 2 rfl
                        have a3 : W9.cell? ⟨wr.heap.size, 3, none⟩ = some (.bool ys) := by rw [← hW9]; exact alloc_cell wr _ _ 3 rfl
                        have a4 : W9.cell? ⟨wr.heap.size, 4, none⟩ = some (.int .i64 yi) := by rw [← hW9]; exact alloc_cell wr _ _ 4 rfl
                        have hs9 : wr.heap.size < W9.heap.size := World.block_lt_of_cell? _ _ a0
                        have hs5 : W5.heap.size ≤ W9.heap.size := HB9.out.size
                        clear MP9 MP OWN
                        obtain ⟨B, hB⟩ : ∃ B, decide (yi ∈ T0.map Hr.id) = B := ⟨_, rfl⟩
                        rw [hB] at hlook LT
                        clear hB
                        cases yo with
                        | false =>
                          simp only [Bool.false_and, Bool.not_false, if_true] at LT
                          have OWA : Hid (∀ o1 : Obj, (W9.alloc o1).ownsRow W5.heap.size 39 5 (.slice ha ml hc2) ml (hcells M)) := fun o1 => OW9.out.alloc o1
                          have ST : Hid (M2 = M ++ [⟨yp, yd, false, ys, yi⟩]) := LT.out
                          clear LT OW9
                          go_wp2_with (at_builtin; refine wpList_append_own _ rfl _ _ 25 rfl W5.heap.size 39 g0i (.agg #[.int .i64 0, .bool false, .bool false, .bool false, .int .i64 0]) 5 24 Try.underlying25 hg0 gz0 gz1 gz2 rfl (by decide) (.slice ha ml hc2) ml (hcells M) rfl (OWA.out _) ⟨W9.heap.size, 0, none⟩ 1 1 (hcell ⟨yp, yd, false, ys, yi⟩) rfl rfl ?e1 ?e2 ?e3 ?e4 ?e5 ?_)
                          case e1 => exact newsH (x := ⟨yp, yd, false, ys, yi⟩) (alloc_cell W9 _ _ 0 rfl) (alloc_cell W9 _ _ 1 rfl) (alloc_cell W9 _ _ 2 rfl) (alloc_cell W9 _ _ 3 rfl) (alloc_cell W9 _ _ 4 rfl)
                          case e2 => exact hcell_one _
                          case e3 => unfold maxLen; omega
                          case e4 => omega
                          case e5 => first | omega | (simp; omega)
                          intro v2 w11 own11 grow11 _
                          have OW11 : Hid (w11.ownsRow W5.heap.size 39 5 v2 M2.length (hcells M2)) := by
                            show World.ownsRow _ _ _ _ _ _ _
                            rw [ST.out, hcells_snoc, List.length_append, List.length_singleton, HML.out]
                            exact own11
                          have HB11 : Hid (Below W5.heap.size W5 w11) := (HB9.out.alloc HB9.out.size _).grown grow11 (by simp; omega) (fun k hk => ((OWA.out (.cells #[] 0)).lt k hk).1)
                          obtain ⟨va3, vc3, hv3⟩ : ∃ va vc, v2 = .slice va (ml + 1) vc := by
                            rcases own11.2 with ⟨e, e0⟩ | ⟨g5, cap5, cur5, e, _⟩
                            · exact ⟨none, 0, by rw [e, e0]⟩
                            · exact ⟨_, cap5, e⟩
                          subst hv3
                          clear own11 grow11 OWA a0 a1 a2 a3 a4 hlook
                          go_wp2_with fail
                          go_roundg (m - (j + 1))
                          case measure => omega
                          case rel => exact ⟨j + 1, by omega, by omega, by go_num, HB11, (by rw [HM2.out]; exact OW11)⟩
                        | true =>
                          cases B with
                          | false =>
                            simp only [Bool.and_false, Bool.not_false, if_true] at LT
                            have OWA : Hid (∀ o1 : Obj, (W9.alloc o1).ownsRow W5.heap.size 39 5 (.slice ha ml hc2) ml (hcells M)) := fun o1 => OW9.out.alloc o1
                            have ST : Hid (M2 = M ++ [⟨yp, yd, true, ys, yi⟩]) := LT.out
                            clear LT OW9
                            go_wp2_with (at_builtin; refine wpList_append_own _ rfl _ _ 25 rfl W5.heap.size 39 g0i (.agg #[.int .i64 0, .bool false, .bool false, .bool false, .int .i64 0]) 5 24 Try.underlying25 hg0 gz0 gz1 gz2 rfl (by decide) (.slice ha ml hc2) ml (hcells M) rfl (OWA.out _) ⟨W9.heap.size, 0, none⟩ 1 1 (hcell ⟨yp, yd, true, ys, yi⟩) rfl rfl ?e1 ?e2 ?e3 ?e4 ?e5 ?_)
                            case e1 => exact newsH (x := ⟨yp, yd, true, ys, yi⟩) (alloc_cell W9 _ _ 0 rfl) (alloc_cell W9 _ _ 1 rfl) (alloc_cell W9 _ _ 2 rfl) (alloc_cell W9 _ _ 3 rfl) (alloc_cell W9 _ _ 4 rfl)
                            case e2 => exact hcell_one _
                            case e3 => unfold maxLen; omega
                            case e4 => omega
                            case e5 => first | omega | (simp; omega)
                            intro v2 w11 own11 grow11 _
                            have OW11 : Hid (w11.ownsRow W5.heap.size 39 5 v2 M2.length (hcells M2)) := by
                              show World.ownsRow _ _ _ _ _ _ _
                              rw [ST.out, hcells_snoc, List.length_append, List.length_singleton, HML.out]
                              exact own11
                            have HB11 : Hid (Below W5.heap.size W5 w11) := (HB9.out.alloc HB9.out.size _).grown grow11 (by simp; omega) (fun k hk => ((OWA.out (.cells #[] 0)).lt k hk).1)
                            obtain ⟨va3, vc3, hv3⟩ : ∃ va vc, v2 = .slice va (ml + 1) vc := by
                              rcases own11.2 with ⟨e, e0⟩ | ⟨g5, cap5, cur5, e, _⟩
                              · exact ⟨none, 0, by rw [e, e0]⟩
                              · exact ⟨_, cap5, e⟩
                            subst hv3
                            clear own11 grow11 OWA a0 a1 a2 a3 a4 hlook
                            go_wp2_with fail
                            go_roundg (m - (j + 1))
                            case measure => omega
                            case rel => exact ⟨j + 1, by omega, by omega, by go_num, HB11, (by rw [HM2.out]; exact OW11)⟩
                          | true =>
                            simp only [Bool.and_true, Bool.not_true, if_false, List.append_nil, Bool.false_eq_true] at LT
                            have OW11 : Hid (W9.ownsRow W5.heap.size 39 5 (.slice ha ml hc2) M2.length (hcells M2)) := by
                              show World.ownsRow _ _ _ _ _ _ _
                              rw [LT.out, HML.out]
                              exact OW9.out
                            clear LT OW9
                            go_wp2_with fail
                            go_roundg (m - (j + 1))
                            case measure => omega
                            case rel => exact ⟨j + 1, by omega, by omega, by go_num, HB9, (by rw [HM2.out]; exact OW11)⟩
                      · have hje : m = j := by omega
                        have eL : L.take j = L := List.take_of_length_le (by rw [HM.out, hje]; exact Nat.le_refl _)
                        rw [eL] at OWN ⊢
                        clear eL
                        subst hje
                        obtain ⟨ha', hc', hv', HAT⟩ := hrs_own OWN.out
                        obtain ⟨ca', cc', hw', CAT⟩ := cals_own (C := T0.map (callH S k)) (by have h := owns_block LSF.out.ow (fun b hb => HBr.out.block b (LSF.out.ow.lt b hb).2); rw [List.length_map]; exact h)
                        simp only [Value.slice.injEq] at hv' hw'
                        obtain ⟨rfl, _, rfl⟩ := hv'
                        obtain ⟨rfl, _, rfl⟩ := hw'
                        have FIN : Hid _ := POST.out ga gc ha hc2 gl (leftF L (T0.map Hr.id)).length wr (by rw [HT0.out, List.length_map]; exact HGL5.out) (by rw [HT0.out]) (HB5.out.trans (HBr.out.mono HB5.out.size)) (by rw [HT0.out]; exact CAT) (by rw [HT0.out]; exact HAT)
                        clear HAT CAT OWN
                        generalize (leftF L (T0.map Hr.id)).length = fl5 at *
                        go_wp2_with fail
                        exact bodyPost_ret (v := .tuple #[.slice ga gl gc, .slice ha fl5 hc2, .int .i64 0]) (by simp [results, Try.results5, go_sem]) rfl FIN.out
                  | false =>
                    have NS3 : Hid _ := NS2.out HLAST.out
                    have LS3 : Hid (LoopS w6 wr S k (.slice ga gl gc) ((X.take (i + 1)).flatMap (hearF L))) := by rw [FS.out]; exact LS.out
                    clear TB FS NS2 LS
                    go_wp2_with fail
                    go_roundg (xl - (i + 1))
                    case measure => omega
                    case rel => exact ⟨i + 1, by omega, by omega, by go_num, NS3, LS3⟩
            · have hie : i = xl := by omega
              have eX : X.take i = X := List.take_of_length_le (by rw [HXL.out, hie]; exact Nat.le_refl _)
              rw [eX] at NS LS ⊢
              clear eX
              subst hie
              have hTE := told_end NS.out
              obtain ⟨W5, hW5⟩ : ∃ W5, wr = W5 := ⟨_, rfl⟩
              rw [hW5] at LS ⊢
              clear hW5
              obtain ⟨ga, hga⟩ : ∃ z, ca = z := ⟨_, rfl⟩
              subst hga
              obtain ⟨gl, hgl⟩ : ∃ z, (X.flatMap (hearF L)).length = z := ⟨_, rfl⟩
              have HGL5 : Hid ((toldF L X).length = gl) := by rw [hTE]; exact hgl
              rw [hgl] at LS ⊢
              have LSF : Hid (LoopS w6 W5 S k (.slice ca gl cc) (toldF L X)) := by rw [hTE]; exact LS.out
              clear hgl hTE LS NS
              obtain ⟨g0i, hg0, gz0, gz1, gz2⟩ := info_parts infoHearer
              obtain ⟨T0, hT0⟩ : ∃ T0, toldF L X = T0 := ⟨_, rfl⟩
              rw [hT0] at LSF HGL5
              have HT0 : Hid (toldF L (spotsF P) = T0) := by rw [HX.out]; exact hT0
              clear hT0
              have HB5 : Hid (Below w.heap.size w W5) := HB3.out.trans ((HB6.out.trans (LSF.out.b.mono HB6.out.size)).mono HB3.out.size)
              have HLW : Hid (HrsAt W5 la L) := HL.out.below HB5.out
              have LF0 : Hid (W5.ownsRow W5.heap.size 39 5 (.slice none 0 0) (leftF (L.take 0) (T0.map Hr.id)).length (hcells (leftF (L.take 0) (T0.map Hr.id)))) := World.ownsRow_nil _ _ _ _
              have q5 : w6.heap.size < W5.heap.size := LSF.out.sz
              go_wp2_with fail
              go_loopg [23, 133] m (fun g s23 s133 wr => ∃ j : Nat, j ≤ m ∧ m - j ≤ g ∧ s133 = .int .i64 j ∧ Hid (Below W5.heap.size W5 wr) ∧ Hid (wr.ownsRow W5.heap.size 39 5 s23 (leftF (L.take j) (T0.map Hr.id)).length (hcells (leftF (L.take j) (T0.map Hr.id)))))
              case atStart => exact ⟨0, by omega, by omega, rfl, Below.refl _ _, LF0⟩
              case round =>
                obtain ⟨j, hj5, hg5, rfl, HBr, OWN⟩ := hrel
                clear LF0
                obtain ⟨ha, hc2, rfl⟩ := hrs_form OWN.out
                by_cases hlt5 : j < m
                · have hj6 : (j : Int) < (m : Int) := by omega
                  have hjL : j < L.length := by rw [HM.out]; exact hlt5
                  obtain ⟨lb, lo, el, y0, y1, y2, y3, y4⟩ := (HLW.out.below HBr.out) j hjL
                  subst el
                  have hwf := BL.out j hjL
                  have LT : Hid (leftF (L.take (j + 1)) (T0.map Hr.id) = leftF (L.take j) (T0.map Hr.id) ++ (if (!((hr L j).on && decide ((hr L j).id ∈ T0.map Hr.id))) then [hr L j] else [])) := left_take hjL
                  have MP : Hid (MarksAt wr w6.heap.size T0.length (fun y => decide (y ∈ T0.map Hr.id))) := LSF.out.mp.kept (HBr.out.block _ LSF.out.mp.lt)
                  have hml : (leftF (L.take j) (T0.map Hr.id)).length ≤ 24 := by
                    have h1 : (leftF (L.take j) (T0.map Hr.id)).length ≤ (L.take j).length := List.length_filter_le _ _
                    have h2 : (L.take j).length ≤ L.length := by rw [List.length_take]; exact Nat.min_le_right _ _
                    have h3 := HM.out
                    omega
                  generalize hr L j = y at *
                  obtain ⟨yp, yd, yo, ys, yi⟩ := y
                  dsimp only at y0 y1 y2 y3 y4 hwf LT
                  obtain ⟨M2, hM2⟩ : ∃ M2, leftF (L.take (j + 1)) (T0.map Hr.id) = M2 := ⟨_, rfl⟩
                  have HM2 : Hid (leftF (L.take (j + 1)) (T0.map Hr.id) = M2) := hM2
                  rw [hM2] at LT
                  clear hM2
                  generalize leftF (L.take j) (T0.map Hr.id) = M at *
                  obtain ⟨ml, hmle⟩ : ∃ z, M.length = z := ⟨_, rfl⟩
                  have HML : Hid (M.length = ml) := hmle
                  rw [hmle] at OWN hml ⊢
                  clear hmle
                  obtain ⟨W9, hW9⟩ : ∃ W9, wr.alloc (.cells #[.int .i64 yp, .bool yd, .bool yo, .bool ys, .int .i64 yi] 39) = W9 := ⟨_, rfl⟩
                  have HB9 : Hid (Below W5.heap.size W5 W9) := by rw [← hW9]; exact HBr.out.alloc HBr.out.size _
                  have OW9 : Hid (W9.ownsRow W5.heap.size 39 5 (.slice ha ml hc2) ml (hcells M)) := by rw [← hW9]; exact OWN.out.alloc _
                  have MP9 : MarksAt W9 w6.heap.size T0.length (fun y => decide (y ∈ T0.map Hr.id)) := by rw [← hW9]; exact MP.out.kept (Below.heap_alloc _ _ _ MP.out.lt)
                  have hlook := MP9.look (t := 62) Try.underlying62 hwf
                  have a0 : W9.cell? ⟨wr.heap.size, 0, none⟩ = some (.int .i64 yp) := by rw [← hW9]; exact alloc_cell wr _ _ 0 rfl
                  have a1 : W9.cell? ⟨wr.heap.size, 1, none⟩ = some (.bool yd) := by rw [← hW9]; exact alloc_cell wr _ _ 1 rfl
                  have a2 : W9.cell? ⟨wr.heap.size, 2, none⟩ = some (.bool yo) := by rw [← hW9]; exact alloc_cell wr _ _ 2 rfl
                  have a3 : W9.cell? ⟨wr.heap.size, 3, none⟩ = some (.bool ys) := by rw [← hW9]; exact alloc_cell wr _ _ 3 rfl
                  have a4 : W9.cell? ⟨wr.heap.size, 4, none⟩ = some (.int .i64 yi) := by rw [← hW9]; exact alloc_cell wr _ _ 4 rfl
                  have hs9 : wr.heap.size < W9.heap.size := World.block_lt_of_cell? _ _ a0
                  have hs5 : W5.heap.size ≤ W9.heap.size := HB9.out.size
                  clear MP9 MP OWN
                  obtain ⟨B, hB⟩ : ∃ B, decide (yi ∈ T0.map Hr.id) = B := ⟨_, rfl⟩
                  rw [hB] at hlook LT
                  clear hB
                  cases yo with
                  | false =>
                    simp only [Bool.false_and, Bool.not_false, if_true] at LT
                    have OWA : Hid (∀ o1 : Obj, (W9.alloc o1).ownsRow W5.heap.size 39 5 (.slice ha ml hc2) ml (hcells M)) := fun o1 => OW9.out.alloc o1
                    have ST : Hid (M2 = M ++ [⟨yp, yd, false, ys, yi⟩]) := LT.out
                    clear LT OW9
                    go_wp2_with (at_builtin; refine wpList_append_own _ rfl _ _ 25 rfl W5.heap.size 39 g0i (.agg #[.int .i64 0, .bool false, .bool false, .bool false, .int .i64 0]) 5 24 Try.underlying25 hg0 gz0 gz1 gz2 rfl (by decide) (.slice ha ml hc2) ml (hcells M) rfl (OWA.out _) ⟨W9.heap.size, 0, none⟩ 1 1 (hcell ⟨yp, yd, false, ys, yi⟩) rfl rfl ?e1 ?e2 ?e3 ?e4 ?e5 ?_)
                    case e1 => exact newsH (x := ⟨yp, yd, false, ys, yi⟩) (alloc_cell W9 _ _ 0 rfl) (alloc_cell W9 _ _ 1 rfl) (alloc_cell W9 _ _ 2 rfl) (alloc_cell W9 _ _ 3 rfl) (alloc_cell W9 _ _ 4 rfl)
                    case e2 => exact hcell_one _
                    case e3 => unfold maxLen; omega
                    case e4 => omega
                    case e5 => first | omega | (simp; omega)
                    intro v2 w11 own11 grow11 _
                    have OW11 : Hid (w11.ownsRow W5.heap.size 39 5 v2 M2.length (hcells M2)) := by
                      show World.ownsRow _ _ _ _ _ _ _
                      rw [ST.out, hcells_snoc, List.length_append, List.length_singleton, HML.out]
                      exact own11
                    have HB11 : Hid (Below W5.heap.size W5 w11) := (HB9.out.alloc HB9.out.size _).grown grow11 (by simp; omega) (fun k hk => ((OWA.out (.cells #[] 0)).lt k hk).1)
                    obtain ⟨va3, vc3, hv3⟩ : ∃ va vc, v2 = .slice va (ml + 1) vc := by
                      rcases own11.2 with ⟨e, e0⟩ | ⟨g5, cap5, cur5, e, _⟩
                      · exact ⟨none, 0, by rw [e, e0]⟩
                      · exact ⟨_, cap5, e⟩
                    subst hv3
                    clear own11 grow11 OWA a0 a1 a2 a3 a4 hlook
                    go_wp2_with fail
                    go_roundg (m - (j + 1))
                    case measure => omega
                    case rel => exact ⟨j + 1, by omega, by omega, by go_num, HB11, (by rw [HM2.out]; exact OW11)⟩
                  | true =>
                    cases B with
                    | false =>
                      simp only [Bool.and_false, Bool.not_false, if_true] at LT
                      have OWA : Hid (∀ o1 : Obj, (W9.alloc o1).ownsRow W5.heap.size 39 5 (.slice ha ml hc2) ml (hcells M)) := fun o1 => OW9.out.alloc o1
                      have ST : Hid (M2 = M ++ [⟨yp, yd, true, ys, yi⟩]) := LT.out
                      clear LT OW9
                      go_wp2_with (at_builtin; refine wpList_append_own _ rfl _ _ 25 rfl W5.heap.size 39 g0i (.agg #[.int .i64 0, .bool false, .bool false, .bool false, .int .i64 0]) 5 24 Try.underlying25 hg0 gz0 gz1 gz2 rfl (by decide) (.slice ha ml hc2) ml (hcells M) rfl (OWA.out _) ⟨W9.heap.size, 0, none⟩ 1 1 (hcell ⟨yp, yd, true, ys, yi⟩) rfl rfl ?e1 ?e2 ?e3 ?e4 ?e5 ?_)
                      case e1 => exact newsH (x := ⟨yp, yd, true, ys, yi⟩) (alloc_cell W9 _ _ 0 rfl) (alloc_cell W9 _ _ 1 rfl) (alloc_cell W9 _ _ 2 rfl) (alloc_cell W9 _ _ 3 rfl) (alloc_cell W9 _ _ 4 rfl)
                      case e2 => exact hcell_one _
                      case e3 => unfold maxLen; omega
                      case e4 => omega
                      case e5 => first | omega | (simp; omega)
                      intro v2 w11 own11 grow11 _
                      have OW11 : Hid (w11.ownsRow W5.heap.size 39 5 v2 M2.length (hcells M2)) := by
                        show World.ownsRow _ _ _ _ _ _ _
                        rw [ST.out, hcells_snoc, List.length_append, List.length_singleton, HML.out]
                        exact own11
                      have HB11 : Hid (Below W5.heap.size W5 w11) := (HB9.out.alloc HB9.out.size _).grown grow11 (by simp; omega) (fun k hk => ((OWA.out (.cells #[] 0)).lt k hk).1)
                      obtain ⟨va3, vc3, hv3⟩ : ∃ va vc, v2 = .slice va (ml + 1) vc := by
                        rcases own11.2 with ⟨e, e0⟩ | ⟨g5, cap5, cur5, e, _⟩
                        · exact ⟨none, 0, by rw [e, e0]⟩
                        · exact ⟨_, cap5, e⟩
                      subst hv3
                      clear own11 grow11 OWA a0 a1 a2 a3 a4 hlook
                      go_wp2_with fail
                      go_roundg (m - (j + 1))
                      case measure => omega
                      case rel => exact ⟨j + 1, by omega, by omega, by go_num, HB11, (by rw [HM2.out]; exact OW11)⟩
                    | true =>
                      simp only [Bool.and_true, Bool.not_true, if_false, List.append_nil, Bool.false_eq_true] at LT
                      have OW11 : Hid (W9.ownsRow W5.heap.size 39 5 (.slice ha ml hc2) M2.length (hcells M2)) := by
                        show World.ownsRow _ _ _ _ _ _ _
                        rw [LT.out, HML.out]
                        exact OW9.out
                      clear LT OW9
                      go_wp2_with fail
                      go_roundg (m - (j + 1))
                      case measure => omega
                      case rel => exact ⟨j + 1, by omega, by omega, by go_num, HB9, (by rw [HM2.out]; exact OW11)⟩
                · have hje : m = j := by omega
                  have eL : L.take j = L := List.take_of_length_le (by rw [HM.out, hje]; exact Nat.le_refl _)
                  rw [eL] at OWN ⊢
                  clear eL
                  subst hje
                  obtain ⟨ha', hc', hv', HAT⟩ := hrs_own OWN.out
                  obtain ⟨ca', cc', hw', CAT⟩ := cals_own (C := T0.map (callH S k)) (by have h := owns_block LSF.out.ow (fun b hb => HBr.out.block b (LSF.out.ow.lt b hb).2); rw [List.length_map]; exact h)
                  simp only [Value.slice.injEq] at hv' hw'
                  obtain ⟨rfl, _, rfl⟩ := hv'
                  obtain ⟨rfl, _, rfl⟩ := hw'
                  have FIN : Hid _ := POST.out ca cc ha hc2 gl (leftF L (T0.map Hr.id)).length wr (by rw [HT0.out, List.length_map]; exact HGL5.out) (by rw [HT0.out]) (HB5.out.trans (HBr.out.mono HB5.out.size)) (by rw [HT0.out]; exact CAT) (by rw [HT0.out]; exact HAT)
                  clear HAT CAT OWN
                  generalize (leftF L (T0.map Hr.id)).length = fl5 at *
                  go_wp2_with fail
                  exact bodyPost_ret (v := .tuple #[.slice ca gl cc, .slice ha fl5 hc2, .int .i64 0]) (by simp [results, Try.results5, go_sem]) rfl FIN.out
end Go.Proofs.Ytplkfacaphejgaa
