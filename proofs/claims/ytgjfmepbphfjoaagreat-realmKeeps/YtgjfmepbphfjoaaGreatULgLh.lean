/-
  What is given, place by place: givenBySlot.
-/
import Derived.Test.YtgjfmepbphfjoaaGreatULfXb
namespace Go.Proofs.YtgjfmepbphfjoaaGreat
open Go.RowKit

theorem info29 : (Tryz.prog.info? 29).map (fun i => (i.zero, i.size, i.bytes)) = some (some (.slice none 0 0), 1, 24) := by kernel_rfl
theorem makeRows (n : Nat) (hn : n ≤ 24) (w : World) : (Instr.makeSlice 148 (.int .i64 (n : Int)) (.int .i64 (n : Int))).run Tryz.prog w = .ok (.slice (some ⟨w.heap.size, 0, none⟩) n n) (w.alloc (.cells (madeCells #[.slice none 0 0] n) 29)) :=
  run_make_row' (P := Tryz.prog) 148 29 (.slice none 0 0) 24 Tryz.underlying148 info29 rfl .i64 .i64 n (by omega) (by omega) w

/-- A row of rows, place by place; the rows were made behind it. -/
def GivAt (w : World) (gb n : Nat) (g : Nat → List Int) : Prop :=
  (∀ p, p < n → ∃ ga gc, w.cell? ⟨gb, p, none⟩ = some (.slice ga (g p).length gc) ∧ IntsAt w ga (g p) ∧ ∀ b o s, ga = some ⟨b, o, s⟩ → gb < b) ∧ ∀ p, w.frozen? ⟨gb, p, none⟩ = false

theorem GivAt.below {w w' : World} {gb n : Nat} {g : Nat → List Int} (h : GivAt w gb n g) (hg : gb < w.heap.size) (hb : Below w.heap.size w w') : GivAt w' gb n g :=
  ⟨fun p hp => by
    obtain ⟨ga, gc, h1, h2, h3⟩ := h.1 p hp
    exact ⟨ga, gc, (hb.cell (by exact hg)).trans h1, h2.below hb, h3⟩, fun p => (hb.frozen (by exact hg)).trans (h.2 p)⟩

theorem ints_setLg {w : World} {ga : Option Addr} {l : List Int} (h : IntsAt w ga l) {gb o : Nat} {v : Value} (hb : ∀ b o s, ga = some ⟨b, o, s⟩ → gb < b) : IntsAt (w.setCell ⟨gb, o, none⟩ v) ga l := fun i hi => by
  obtain ⟨b, o', e, hc⟩ := h i hi
  have := hb b o' none e
  exact ⟨b, o', e, (World.cell?_of_block (Below.heap_setCell _ _ _ _ (by show b ≠ gb; omega))).trans hc⟩

theorem GivAt.set {w : World} {gb n : Nat} {g : Nat → List Int} (h : GivAt w gb n g) {pl : Nat} {ga : Option Addr} {gc : Nat} {l : List Int} (hp : pl < n) (hi : IntsAt w ga l) (hb : ∀ b o s, ga = some ⟨b, o, s⟩ → gb < b) :
    GivAt (w.setCell ⟨gb, pl, none⟩ (.slice ga l.length gc)) gb n (fun p => if p = pl then l else g p) := by
  refine ⟨fun p hpn => ?_, fun p => ?_⟩
  · by_cases e : p = pl
    · subst e
      obtain ⟨ga', gc', h1, _⟩ := h.1 p hp
      simp only [if_true]
      exact ⟨ga, gc, World.cell?_setCell_same _ _ _ h1, ints_setLg hi hb, hb⟩
    · simp only [if_neg e]
      obtain ⟨ga', gc', h1, h2, h3⟩ := h.1 p hpn
      exact ⟨ga', gc', (World.cell?_setCell_other _ _ _ _ (by intro e2; cases e2; exact e rfl)).trans h1, ints_setLg h2 h3, h3⟩
  · rw [World.frozen?_setCell]
    exact h.2 p

theorem GivAt.congr {w : World} {gb n : Nat} {g g' : Nat → List Int} (h : GivAt w gb n g) (e : ∀ p, p < n → g p = g' p) : GivAt w gb n g' :=
  ⟨fun p hp => by rw [← e p hp]; exact h.1 p hp, h.2⟩

/-- The slots of the call's own, as they read, and where their rows lie. -/
theorem OwnS.far {B : Nat} {L : List Slt} {K : Nat → Value} {v : Value} {w : World} (h : OwnS B L K v w) : ∃ a c, v = .slice a L.length c ∧ ∀ i, i < L.length → ∃ b, a = some ⟨b, 0, none⟩ ∧ B ≤ b ∧ w.cell? ⟨b, i * 3, none⟩ = some (.int .i64 (slt L i).pl) ∧ w.cell? ⟨b, i * 3 + 1, none⟩ = some (.int .i64 (slt L i).num) ∧ ∃ ga gc, w.cell? ⟨b, i * 3 + 2, none⟩ = some (.slice ga (slt L i).gv.length gc) ∧ IntsAt w ga (slt L i).gv ∧ ∀ b' o s, ga = some ⟨b', o, s⟩ → B ≤ b' := by
  obtain ⟨hm, hk⟩ := h
  have hm' := hm
  obtain ⟨hl, h⟩ := hm
  rcases h with ⟨rfl, h0⟩ | ⟨g, cap, cur, rfl, hb, hg, h1, h2, h3, h4⟩
  · exact ⟨none, 0, by rw [h0], fun i hi => by omega⟩
  · refine ⟨some ⟨g, 0, none⟩, cap, rfl, fun i hi => ⟨g, rfl, hb, ?_⟩⟩
    have hc : ∀ j, j < 3 → w.cell? ⟨g, i * 3 + j, none⟩ = (scell (slt L i) (K i))[j]? := fun j hj => by
      rw [← scells_at L K hj hi]
      exact hm'.cellAt (i * 3 + j) (by omega)
    obtain ⟨sa, sc, e1, e2⟩ := ints_own (hk i hi)
    refine ⟨hc 0 (by omega), hc 1 (by omega), sa, sc, ?_, e2, fun b' o s e => ?_⟩
    · rw [hc 2 (by omega), e1]
      rfl
    · have := hk i hi
      rw [e1, e] at this
      exact (this.lt b' rfl).1

theorem slotsOf_all (a : Option Addr) (c : Nat) (S : List Nd) (H : Nat) (w : World) (wf : WF S) (hH : H < S.length) (hS : NdsAt w a S) :
    Calls Tryz.prog 142 #[.agg #[.slice a S.length c], .int .i64 (H : Int)] w fun e w' => ∃ v K, e = .returned v ∧ Below w.heap.size w w' ∧ OwnS w.heap.size (slotsF S H) K v w' := by
  by_cases hr : rootE S H = -1
  · refine (slotsOf_no a c S H w (by have := wf.small; omega) hS hr).mono fun e w' ⟨he, hb⟩ => ?_
    have e0 : slotsF S H = [] := by unfold slotsF; rw [if_pos hr]
    refine ⟨_, fun _ => .slice none 0 0, he, hb, ?_⟩
    rw [e0]
    exact ⟨World.ownsRow_nil _ _ _ _, fun i hi => by cases hi⟩
  · obtain ⟨r, h1, h2, h3, _⟩ := rootE_cases S H hr
    exact slotsOf_ok a c S H r w wf wf.big hH h1 h2 h3 hS

theorem slotsF_few {S : List Nd} (wf : WF S) (H : Nat) : (slotsF S H).length ≤ 24 := by
  unfold slotsF
  split
  · simp
  · rename_i hr
    obtain ⟨r, h1, h2, _⟩ := rootE_cases S H hr
    rw [h2, Int.toNat_natCast]
    have := slots_len S H (orderF S S.length r)
    have := order_le wf h1
    have := wf.small
    omega

theorem givI_zero (S : List Nd) (h : Nat) : givI S h [] = givT S h := by funext p; rfl
theorem givI_all (S : List Nd) (h : Nat) : givI S h (slotsF S h) = givT S (h + 1) := by funext p; rfl

theorem off_set (w : World) (gb o : Nat) (v : Value) : Off (fun k => k = gb) w (w.setCell ⟨gb, o, none⟩ v) := ⟨rfl, rfl, rfl, by simp [World.setCell], fun _ _ hk => Below.heap_setCell _ _ _ _ hk⟩

set_option maxRecDepth 100000 in
set_option maxHeartbeats 4000000 in
theorem giv_any (a : Option Addr) (c : Nat) (S : List Nd) (w : World) (wf : WF S) (hS : NdsAt w a S) :
    Calls Tryz.prog 130 #[.agg #[.slice a S.length c]] w fun e w' => e = .returned (.slice (some ⟨w.heap.size + 1, 0, none⟩) S.length S.length) ∧ Below w.heap.size w w' ∧ w.heap.size + 1 < w'.heap.size ∧ GivAt w' (w.heap.size + 1) S.length (givT S S.length) := by
  have hN := wf.small
  have hmk := makeRows S.length hN
  have DS : Hid (∀ (h : Nat), h < S.length → ∀ W, NdsAt W a S → Calls _ _ _ _ _) := fun h hh W hW => slotsOf_all a c S h W wf hh hW
  have HS : Hid (NdsAt w a S) := hS
  have PL : Hid (∀ (h i : Nat), i < (slotsF S h).length → ∃ k : Nat, (slt (slotsF S h) i).pl = k ∧ k < S.length) := fun h i hi => by
    obtain ⟨r, k, j, _, _, _, e, hk, _⟩ := slotsF_mem wf (H := h) (s := slt (slotsF S h) i) (by rw [slt_elem hi]; exact List.getElem_mem hi)
    exact ⟨k, e, hk⟩
  have FW : Hid (∀ h, (slotsF S h).length ≤ 24) := fun h => slotsF_few wf h
  have ND : Hid (∀ h, ((slotsF S h).map Slt.pl).Nodup) := fun h => nodup_filter_pl wf
  clear hS wf
  obtain ⟨n, hn⟩ : ∃ n, S.length = n := ⟨_, rfl⟩
  have HN : Hid (S.length = n) := hn
  rw [hn] at hN hmk DS PL ⊢
  clear hn
  have G0 : Hid (GivAt ((w.alloc (.cells #[.slice a n c] 24)).alloc (.cells (madeCells #[.slice none 0 0] n) 29)) (w.heap.size + 1) n (givT S 0)) := by
    refine ⟨fun p hp => ⟨none, 0, ?_, (fun i hi => absurd hi (Nat.not_lt_zero _)), (fun b o s e => by cases e)⟩, fun p => ?_⟩
    · have := alloc_cell (w.alloc (.cells #[.slice a n c] 24)) (madeCells #[.slice none 0 0] n) 29 p (v := .slice none 0 0) (by simp [madeCells, hp, Nat.mod_one])
      show World.cell? _ _ = some (.slice none ([] : List Int).length 0)
      simpa using this
    · go_simp
  go_enter Tryz.func130, Tryz.ntmps130
  go_wp2_with fail
  go_loopg [14] n (fun g s14 wr => ∃ h : Nat, h ≤ n ∧ n - h ≤ g ∧ s14 = .int .i64 h ∧ Hid (Below w.heap.size w wr) ∧ wr.cell? ⟨w.heap.size, 0, none⟩ = some (.slice a n c) ∧ w.heap.size + 1 < wr.heap.size ∧ Hid (GivAt wr (w.heap.size + 1) n (givT S h)))
  case atStart => exact ⟨0, by omega, by omega, rfl, two_belowS _ _ _, by go_simp, by simp, G0⟩
  case round =>
    obtain ⟨h, hh, hg, rfl, HB, cs, hsz, HG⟩ := hrel
    clear G0
    by_cases hlt : h < n
    · have hlt2 : (h : Int) < (n : Int) := by omega
      go_wp2_with fail
      refine Calls.mono (DS.out h hlt _ (HS.out.below HB.out)) ?_
      rintro e w3 ⟨v, K, rfl, hb, hO⟩
      obtain ⟨qa, qc, hv, hfar⟩ := hO.far
      subst hv
      have HFAR : Hid _ := hfar
      have cs3 := keepC cs hb
      have hs3 := hb.size
      have HB3 : Hid (Below w.heap.size w w3) := HB.out.trans (hb.mono HB.out.size)
      have HG3 : Hid (GivAt w3 (w.heap.size + 1) n (givT S h)) := HG.out.below hsz hb
      have PLh : Hid _ := PL.out h
      have fw := FW.out h
      have NDh : Hid _ := ND.out h
      have GA : Hid (givI S h (slotsF S h) = givT S (h + 1)) := givI_all S h
      clear hb hO hfar cs HG
      generalize slotsF S h = L at *
      obtain ⟨m, hm⟩ : ∃ z, L.length = z := ⟨_, rfl⟩
      have HM : Hid (L.length = m) := hm
      rw [hm] at HFAR PLh fw ⊢
      clear hm
      go_wp2_with fail
      go_loopg [21] m (fun g s21 w2 => ∃ i : Nat, i ≤ m ∧ m - i ≤ g ∧ s21 = .int .i64 i ∧ Hid (Off (fun k => k = w.heap.size + 1) w3 w2) ∧ w2.cell? ⟨w.heap.size, 0, none⟩ = some (.slice a n c) ∧ w3.heap.size ≤ w2.heap.size ∧ Hid (GivAt w2 (w.heap.size + 1) n (givI S h (L.take i))))
      case atStart => exact ⟨0, by omega, by omega, rfl, Off.refl _ _, cs3, Nat.le_refl _, HG3⟩
      case round =>
        obtain ⟨i, hi, hg2, rfl, HO, cs2, hsz2, HG2⟩ := hrel
        clear cs3
        by_cases hlt3 : i < m
        · have hlt4 : (i : Int) < (m : Int) := by omega
          obtain ⟨b, ea, hbb, f0, f1, ga, gc, f2, hin, hfar2⟩ := HFAR.out i hlt3
          obtain ⟨pl, epl, hpl⟩ := PLh.out i hlt3
          subst ea
          rw [epl] at f0
          have x0 := (HO.out.cell (p := ⟨b, i * 3, none⟩) (by exact World.block_lt_of_cell? _ _ f0) (by show ¬ b = _; omega)).trans f0
          have x1 := (HO.out.cell (p := ⟨b, i * 3 + 1, none⟩) (by exact World.block_lt_of_cell? _ _ f1) (by show ¬ b = _; omega)).trans f1
          have x2 := (HO.out.cell (p := ⟨b, i * 3 + 2, none⟩) (by exact World.block_lt_of_cell? _ _ f2) (by show ¬ b = _; omega)).trans f2
          have hpl2 : (pl : Int) < (n : Int) := by omega
          have HIN : Hid (IntsAt wr ga (slt L i).gv) := fun j hj => by
            obtain ⟨b', o', e, hc⟩ := hin j hj
            have := hfar2 b' o' none e
            exact ⟨b', o', e, (HO.out.cell (by exact World.block_lt_of_cell? _ _ hc) (by show ¬ b' = _; omega)).trans hc⟩
          have HF2 : Hid (∀ b o s, ga = some ⟨b, o, s⟩ → w.heap.size + 1 < b) := fun b o s e => by have := hfar2 b o s e; omega
          have EQ : Hid (∀ p, p < n → (if p = pl then (slt L i).gv else givI S h (L.take i) p) = givI S h (L.take (i + 1)) p) := fun p hp => by
            have hi' : i < L.length := by rw [HM.out]; exact hlt3
            rw [givI_step NDh.out hi', ← slt_elem hi', epl]
            by_cases e : p = pl
            · subst e; simp
            · rw [if_neg e, if_neg (by omega)]
          obtain ⟨gv0, gc0, gcell, _⟩ := HG2.out.1 pl hpl
          have gfr := HG2.out.2 pl
          have FIN : Hid (∀ o1 : Obj, GivAt ((wr.setCell ⟨w.heap.size + 1, pl, none⟩ (.slice ga (slt L i).gv.length gc)).alloc o1) (w.heap.size + 1) n (givI S h (L.take (i + 1)))) := fun o1 =>
            ((HG2.out.set (gc := gc) hpl HIN.out HF2.out).congr EQ.out).below (by simp [World.setCell]; omega) (one_belowS _ _)
          have cs3 : ∀ v, (wr.setCell ⟨w.heap.size + 1, pl, none⟩ v).cell? ⟨w.heap.size, 0, none⟩ = some (.slice a n c) := fun v => (World.cell?_of_block (Below.heap_setCell _ _ _ _ (by show w.heap.size ≠ w.heap.size + 1; omega))).trans cs2
          have hgb : w.heap.size + 1 < wr.heap.size := by omega
          have CS3 : Hid _ := cs3
          clear f0 f1 f2 hin hfar2 cs3
          generalize (slt L i).gv.length = gl at *
          generalize (slt L i).num = nu at *
          go_wp2_with fail
          go_roundg (m - (i + 1))
          case measure => omega
          case rel => exact ⟨i + 1, by omega, by omega, by go_num, (HO.out.trans (off_set wr _ pl _)).trans (Off.of_below (one_belowS _ _)), keepC (CS3.out _) (one_belowS _ _), by simp [World.setCell]; omega, FIN.out _⟩
        · have hie : i = m := by omega
          subst hie
          have HGE : Hid (GivAt wr (w.heap.size + 1) n (givT S (h + 1))) := by
            have h1 := HG2.out
            rw [List.take_of_length_le (by rw [HM.out]; omega), GA.out] at h1
            exact h1
          have HB2 : Hid (Below w.heap.size w wr) := HB3.out.trans (HO.out.below (by omega) (fun k hk => by have : k = w.heap.size + 1 := hk; omega))
          go_wp2_with fail
          go_roundg (n - (h + 1))
          case measure => omega
          case rel => exact ⟨h + 1, by omega, by omega, by go_num, HB2, cs2, by omega, HGE⟩
    · have hie : h = n := by omega
      subst hie
      have HGE := HG
      rw [← HN.out] at HGE
      clear HG
      go_wp2_with fail
      go_ret
      exact ⟨rfl, HB.out, hsz, by rw [← HN.out]; exact HGE.out⟩
end Go.Proofs.YtgjfmepbphfjoaaGreat

namespace Go.Proofs.YtgjfmepbphfjoaaGreat
open Go.RowKit

set_option maxRecDepth 100000 in
set_option maxHeartbeats 1000000 in
theorem show1_root (a : Option Addr) (c : Nat) (S : List Nd) (bs bg p r : Nat) (ka : Option Addr) (kl kc : Nat) (w : World) (hN : S.length ≤ 24) (hr : r < S.length) (er : rootE S p = r) (hS : NdsAt w a S) (cb : w.cell? ⟨bs, 0, none⟩ = some (.slice a S.length c)) (ck : ∃ b o, a = some ⟨b, o, none⟩ ∧ w.cell? ⟨b, o + r * 8 + 5, none⟩ = some (.slice ka kl kc)) :
    Calls Tryz.prog 131 #[.int .i64 (p : Int), .pointer (some ⟨bs, 0, none⟩), .pointer (some ⟨bg, 0, none⟩)] w fun e w' => e = .returned (.slice ka kl kc) ∧ Below w.heap.size w w' := by
  have d := rootOf_any a c S (p : Int) w (by omega) hS
  rw [er] at d
  have D : Hid _ := d
  obtain ⟨b, o, rfl, ck⟩ := ck
  have hr2 : (r : Int) < (S.length : Int) := by omega
  have hr3 : ((r : Int) == -1) = false := by simp
  have hr4 : decide ((r : Int) = -1) = false := by simp
  clear d hS er
  generalize S.length = n at *
  go_enter Tryz.func131, Tryz.ntmps131
  go_wp2_with fail
  refine Calls.mono D.out ?_
  rintro e w1 ⟨rfl, hb⟩
  have cb1 := keepC cb hb
  have ck1 := keepC ck hb
  have HB : Hid _ := hb
  clear hb cb ck
  go_wp2_with fail
  go_ret
  exact ⟨rfl, HB.out⟩

set_option maxRecDepth 100000 in
set_option maxHeartbeats 1000000 in
theorem show1_given (a : Option Addr) (c : Nat) (S : List Nd) (bs bg gb p : Nat) (ka : Option Addr) (kl kc : Nat) (w : World) (hN : S.length ≤ 24) (hp : p < S.length) (er : rootE S p = -1) (hS : NdsAt w a S) (cb : w.cell? ⟨bs, 0, none⟩ = some (.slice a S.length c)) (cg : w.cell? ⟨bg, 0, none⟩ = some (.slice (some ⟨gb, 0, none⟩) S.length S.length)) (ck : w.cell? ⟨gb, p, none⟩ = some (.slice ka kl kc)) (hk : 0 < kl) :
    Calls Tryz.prog 131 #[.int .i64 (p : Int), .pointer (some ⟨bs, 0, none⟩), .pointer (some ⟨bg, 0, none⟩)] w fun e w' => e = .returned (.slice ka kl kc) ∧ Below w.heap.size w w' := by
  have d := rootOf_any a c S (p : Int) w (by omega) hS
  rw [er] at d
  have D : Hid _ := d
  have hp2 : (p : Int) < (S.length : Int) := by omega
  have hk2 : (0 : Int) < (kl : Int) := by omega
  clear d hS er
  generalize S.length = n at *
  go_enter Tryz.func131, Tryz.ntmps131
  go_wp2_with fail
  refine Calls.mono D.out ?_
  rintro e w1 ⟨rfl, hb⟩
  have cb1 := keepC cb hb
  have cg1 := keepC cg hb
  have ck1 := keepC ck hb
  have HB : Hid _ := hb
  clear hb cb ck cg
  go_wp2_with fail
  go_ret
  exact ⟨rfl, HB.out⟩

set_option maxRecDepth 100000 in
set_option maxHeartbeats 1000000 in
theorem show1_kids (a : Option Addr) (c : Nat) (S : List Nd) (bs bg gb p : Nat) (ka ga : Option Addr) (kl kc gc : Nat) (w : World) (hN : S.length ≤ 24) (hp : p < S.length) (er : rootE S p = -1) (hS : NdsAt w a S) (cb : w.cell? ⟨bs, 0, none⟩ = some (.slice a S.length c)) (cg : w.cell? ⟨bg, 0, none⟩ = some (.slice (some ⟨gb, 0, none⟩) S.length S.length)) (ck : w.cell? ⟨gb, p, none⟩ = some (.slice ga 0 gc)) (cn : ∃ b o, a = some ⟨b, o, none⟩ ∧ w.cell? ⟨b, o + p * 8 + 5, none⟩ = some (.slice ka kl kc)) :
    Calls Tryz.prog 131 #[.int .i64 (p : Int), .pointer (some ⟨bs, 0, none⟩), .pointer (some ⟨bg, 0, none⟩)] w fun e w' => e = .returned (.slice ka kl kc) ∧ Below w.heap.size w w' := by
  have d := rootOf_any a c S (p : Int) w (by omega) hS
  rw [er] at d
  have D : Hid _ := d
  obtain ⟨b, o, rfl, cn⟩ := cn
  have hp2 : (p : Int) < (S.length : Int) := by omega
  clear d hS er
  generalize S.length = n at *
  go_enter Tryz.func131, Tryz.ntmps131
  go_wp2_with fail
  refine Calls.mono D.out ?_
  rintro e w1 ⟨rfl, hb⟩
  have cb1 := keepC cb hb
  have cg1 := keepC cg hb
  have ck1 := keepC ck hb
  have cn1 := keepC cn hb
  have HB : Hid _ := hb
  clear hb cb ck cg cn
  go_wp2_with fail
  go_ret
  exact ⟨rfl, HB.out⟩

/-- Flat's order. -/
def flatF (S : List Nd) (k : Nat) : List Int := orderG (showF S (givT S S.length)) (farF S) k

/-- What is asked of Flat's closure by a walk. -/
theorem show_rows (a : Option Addr) (c : Nat) (S : List Nd) (bs bg gb : Nat) (w : World) (wf : WF S) (hS : NdsAt w a S) (cb : w.cell? ⟨bs, 0, none⟩ = some (.slice a S.length c)) (cg : w.cell? ⟨bg, 0, none⟩ = some (.slice (some ⟨gb, 0, none⟩) S.length S.length)) (hG : GivAt w gb S.length (givT S S.length)) (p : Nat) (hp : p < S.length) :
    ∃ ka kc, (showF S (givT S S.length) p).length ≤ 9223372036854775807 ∧ (∀ w1, Below w.heap.size w w1 → IntsAt w1 ka (showF S (givT S S.length) p)) ∧ ∀ w1, Below w.heap.size w w1 → Calls Tryz.prog 131 (#[.int .i64 (p : Int)] ++ #[.pointer (some ⟨bs, 0, none⟩), .pointer (some ⟨bg, 0, none⟩)]) w1 fun e w2 => e = .returned (.slice ka (showF S (givT S S.length) p).length kc) ∧ Below w1.heap.size w1 w2 := by
  have hN := wf.small
  unfold showF
  by_cases hr : rootE S p = -1
  · rw [if_neg (by simpa using hr)]
    obtain ⟨ga, gc, g1, g2, _⟩ := hG.1 p hp
    by_cases hg : givT S S.length p = []
    · rw [if_neg (by simpa using hg)]
      rw [hg] at g1
      obtain ⟨b, o, ea, _, _, _, _, _, ⟨ka, kc, c5, hks⟩, _⟩ := hS p hp
      exact ⟨ka, kc, by have := wf.kids_small hp; omega, fun w1 h1 => hks.below h1, fun w1 h1 => show1_kids a c S bs bg gb p ka ga _ kc gc w1 hN hp hr (hS.below h1) (keepC cb h1) (keepC cg h1) (keepC g1 h1) ⟨b, o, ea, keepC c5 h1⟩⟩
    · rw [if_pos (by simpa using hg)]
      have hpos : 0 < (givT S S.length p).length := List.length_pos_iff.2 hg
      exact ⟨ga, gc, by have := (giv_small wf (Nat.le_refl S.length) (p := p)).1; omega, fun w1 h1 => g2.below h1, fun w1 h1 => show1_given a c S bs bg gb p ga _ gc w1 hN hp hr (hS.below h1) (keepC cb h1) (keepC cg h1) (keepC g1 h1) hpos⟩
  · rw [if_pos (by simpa using hr)]
    obtain ⟨r, h1, h2, _⟩ := rootE_cases S p hr
    rw [h2, Int.toNat_natCast]
    obtain ⟨b, o, ea, _, _, _, _, _, ⟨ka, kc, c5, hks⟩, _⟩ := hS r h1
    exact ⟨ka, kc, by have := wf.kids_small h1; omega, fun w1 h1 => hks.below h1, fun w1 hb => show1_root a c S bs bg p r ka _ kc w1 hN h1 h2 (hS.below hb) (keepC cb hb) ⟨b, o, ea, keepC c5 hb⟩⟩

set_option maxRecDepth 100000 in
set_option maxHeartbeats 1000000 in
theorem flat_err (a : Option Addr) (c : Nat) (S : List Nd) (p u E : Int) (w : World) (hN : S.length ≤ 9223372036854775807) (hB : Big S) (hS : NdsAt w a S) (hE : findE S p u = E) (hE0 : E ≠ 0) :
    Calls Tryz.prog 110 #[.agg #[.slice a S.length c], .agg #[.int .i64 p, .int .i64 u]] w fun e w' => e = .returned (.tuple #[.slice none 0 0, .int .i64 E]) ∧ Below w.heap.size w w' := by
  have D : Hid (∀ W, NdsAt W a S → Calls _ _ _ _ _) := fun W hW => find_err a c S p u E W hN hB hW hE hE0
  have HS : Hid (NdsAt w a S) := hS
  have e1 : (E == 0) = false := beq_eq_false_iff_ne.2 hE0
  have e2 : decide (E = 0) = false := decide_eq_false hE0
  clear hS hE hB
  generalize S.length = n at *
  go_enter Tryz.func110, Tryz.ntmps110
  go_wp2_with fail
  refine Calls.mono (D.out _ (HS.out.below (two_belowS _ _ _))) ?_
  rintro e w1 ⟨rfl, hb⟩
  have HB : Hid (Below w.heap.size w w1) := (two_belowS w _ _).trans (hb.mono (by simp; omega))
  clear hb
  go_wp2_with fail
  exact bodyPost_ret (v := .tuple #[.slice none 0 0, .int .i64 E]) (by simp [results, Tryz.results110, go_sem]) rfl ⟨rfl, HB.out.trans ((one_belowS _ _).mono HB.out.size)⟩

theorem flatF_le {S : List Nd} (wf : WF S) {k : Nat} (hk : k < S.length) : (flatF S k).length ≤ S.length := orderG_le wf (giv_ok wf) hk (farF S)

theorem walk_flat (a : Option Addr) (c : Nat) (S : List Nd) (k bs bg gb : Nat) (w : World) (wf : WF S) (hk : k < S.length) (hS : NdsAt w a S) (cb : w.cell? ⟨bs, 0, none⟩ = some (.slice a S.length c)) (cg : w.cell? ⟨bg, 0, none⟩ = some (.slice (some ⟨gb, 0, none⟩) S.length S.length)) (hG : GivAt w gb S.length (givT S S.length)) :
    Calls Tryz.prog 132 #[.int .i64 (k : Int), .func (.func 131) #[] #[.pointer (some ⟨bs, 0, none⟩), .pointer (some ⟨bg, 0, none⟩)]] w fun e w' => ∃ sa cap, e = .returned (.slice sa (flatF S k).length cap) ∧ Below w.heap.size w w' ∧ IntsAt w' sa (flatF S k) := by
  have hN := wf.small
  have hl := flatF_le wf hk
  unfold flatF at hl ⊢
  refine (walk_any (showF S (givT S S.length)) S.length 131 #[.pointer (some ⟨bs, 0, none⟩), .pointer (some ⟨bg, 0, none⟩)] k (farF S) w (enters_of Tryz.func131 (by kernel_rfl) rfl) (fun p hp => show_rows a c S bs bg gb w wf hS cb cg hG p hp) hk (deep_show_all wf (giv_ok wf) hk) (by omega)).mono fun e w' ⟨sa, cap, h1, h2, h3, _⟩ => ⟨sa, cap, h1, h2, h3⟩

set_option maxRecDepth 100000 in
set_option maxHeartbeats 1000000 in
theorem flat_ok (a : Option Addr) (c : Nat) (S : List Nd) (k : Nat) (u : Int) (w : World) (wf : WF S) (hS : NdsAt w a S) (hk : k < S.length) (hE : findE S k u = 0) :
    Calls Tryz.prog 110 #[.agg #[.slice a S.length c], .agg #[.int .i64 (k : Int), .int .i64 u]] w fun e w' => ∃ sa cap, e = .returned (.tuple #[.slice sa (flatF S k).length cap, .int .i64 0]) ∧ Below w.heap.size w w' ∧ IntsAt w' sa (flatF S k) := by
  have hN := wf.small
  have D : Hid (∀ W, NdsAt W a S → Calls _ _ _ _ _) := fun W hW => find_ok a c S k u W (by omega) wf.big hW hk hE (by have := wf.kids_small hk; omega)
  have DG : Hid (∀ W, NdsAt W a S → Calls _ _ _ _ _) := fun W hW => giv_any a c S W wf hW
  have DW : Hid (∀ bs bg gb W, NdsAt W a S → World.cell? W ⟨bs, 0, none⟩ = some (.slice a S.length c) → World.cell? W ⟨bg, 0, none⟩ = some (.slice (some ⟨gb, 0, none⟩) S.length S.length) → GivAt W gb S.length (givT S S.length) → Calls _ _ _ _ _) := fun bs bg gb W h1 h2 h3 h4 => walk_flat a c S k bs bg gb W wf hk h1 h2 h3 h4
  have HS : Hid (NdsAt w a S) := hS
  clear hS hE wf
  generalize flatF S k = F at *
  generalize nd S k = x at *
  obtain ⟨xu, xn, xt, xm, xp, xks, xh, xc⟩ := x
  generalize givT S S.length = G at *
  generalize S.length = n at *
  dsimp only at D
  obtain ⟨fl, hfl⟩ : ∃ z, F.length = z := ⟨_, rfl⟩
  rw [hfl] at DW ⊢
  obtain ⟨xl, hxl⟩ : ∃ z, xks.length = z := ⟨_, rfl⟩
  rw [hxl] at D
  clear hfl hxl
  go_enter Tryz.func110, Tryz.ntmps110
  go_wp2_with fail
  refine Calls.mono (D.out _ (HS.out.below (two_belowS _ _ _))) ?_
  rintro e w1 ⟨g, rfl, hb, _⟩
  have l0 := keepC (alloc_cell1 w #[.slice a n c] 24 0 (.cells #[.int .i64 (k : Int), .int .i64 u] 39) rfl) hb
  have l1 := keepC (alloc_cell2 w #[.int .i64 (k : Int), .int .i64 u] 39 0 (.cells #[.slice a n c] 24) rfl) hb
  have q0 := World.block_lt_of_cell? _ _ l0
  have q1 := World.block_lt_of_cell? _ _ l1
  have HB : Hid (Below w.heap.size w w1) := (two_belowS w _ _).trans (hb.mono (by simp; omega))
  clear hb D
  go_wp2_with fail
  refine Calls.mono (DG.out _ (HS.out.below (HB.out.trans ((one_belowS _ _).mono HB.out.size)))) ?_
  rintro e w2 ⟨rfl, hb, hsz, hG⟩
  have m0 := keepC (keepC l0 (one_belowS _ _)) hb
  have m1 := keepC (keepC l1 (one_belowS _ _)) hb
  have r0 := World.block_lt_of_cell? _ _ m0
  have r1 := World.block_lt_of_cell? _ _ m1
  have HB2 : Hid (Below w.heap.size w w2) := (HB.out.trans ((one_belowS _ _).mono HB.out.size)).trans (hb.mono (by have := HB.out.size; simp; omega))
  have HG : Hid (GivAt w2 _ n G) := hG
  clear hb l0 l1 q0 q1 DG hG
  simp only [World.size_alloc] at HG hsz ⊢
  generalize w1.heap.size + 1 + 1 = gb at *
  go_wp2_with fail
  refine Calls.mono (DW.out _ _ _ _ (HS.out.below (HB2.out.trans ((one_belowS _ _).mono HB2.out.size))) (keepC m0 (one_belowS _ _)) (alloc_cell w2 _ _ 0 rfl) (GivAt.below HG.out hsz (one_belowS _ _))) ?_
  rintro e w3 ⟨sa, cap, rfl, hb, hI⟩
  have HB3 : Hid (Below w.heap.size w w3) := (HB2.out.trans ((one_belowS _ _).mono HB2.out.size)).trans (hb.mono (by have := HB2.out.size; simp; omega))
  have HI : Hid _ := hI
  clear hb hI DW HG m0 m1
  go_wp2_with fail
  exact bodyPost_ret (v := .tuple #[.slice sa fl cap, .int .i64 0]) (by simp [results, Tryz.results110, go_sem]) rfl ⟨sa, cap, rfl, HB3.out, HI.out⟩
end Go.Proofs.YtgjfmepbphfjoaaGreat
