/-
  How many places are not in use: plain counting, no program.
-/
import Derived.Test.YtjlapfgghljidaaUXeXf
import Derived.Deep.RegionHeld3
namespace Go.Proofs.Ytjlapfgghljidaa.Room

/-- How many of the first n places are not in use. -/
def cnt (f : Nat → Nd) : Nat → Nat
  | 0 => 0
  | n + 1 => cnt f n + (if (f n).u then 0 else 1)

theorem cnt_congr {f f' : Nat → Nd} : ∀ n, (∀ i, i < n → (f i).u = (f' i).u) → cnt f n = cnt f' n
  | 0, _ => rfl
  | n + 1, h => by
    unfold cnt
    rw [cnt_congr n (fun i hi => h i (by omega)), h n (by omega)]

theorem cnt_free {f f' : Nat → Nd} {k : Nat} (hk : (f k).u = true) (hk' : (f' k).u = false) (ho : ∀ i, i ≠ k → (f' i).u = (f i).u) : ∀ n, k < n → cnt f' n = cnt f n + 1
  | 0, h => by omega
  | n + 1, h => by
    unfold cnt
    by_cases e : n = k
    · subst e
      rw [cnt_congr n (fun i hi => ho i (by omega)), hk, hk']
      simp
    · rw [cnt_free hk hk' ho n (by omega), ho n e]
      omega

theorem cnt_zero {f : Nat → Nd} : ∀ n, cnt f n = 0 → ∀ i, i < n → (f i).u = true
  | 0, _, i, hi => by omega
  | n + 1, h, i, hi => by
    unfold cnt at h
    by_cases e : i = n
    · subst e
      cases hu : (f i).u
      · simp [hu] at h
      · rfl
    · exact cnt_zero n (by omega) i (by omega)

theorem cnt_pos {f : Nat → Nd} : ∀ n, 0 < cnt f n → ∃ k, k < n ∧ (f k).u = false ∧ ∀ i, i < k → (f i).u = true
  | 0, h => by unfold cnt at h; omega
  | n + 1, h => by
    by_cases e : 0 < cnt f n
    · obtain ⟨k, hk, h1, h2⟩ := cnt_pos n e
      exact ⟨k, by omega, h1, h2⟩
    · have hz : cnt f n = 0 := by omega
      refine ⟨n, by omega, ?_, cnt_zero n hz⟩
      unfold cnt at h
      cases hu : (f n).u
      · rfl
      · simp [hu, hz] at h

theorem cnt_all {f : Nat → Nd} : ∀ n, (∀ i, i < n → (f i).u = true) → cnt f n = 0
  | 0, _ => rfl
  | n + 1, h => by
    unfold cnt
    rw [cnt_all n (fun i hi => h i (by omega)), h n (by omega)]
    simp

/-- What is so of all places while some are freed. -/
def Ones (f : Nat → Nd) (n : Nat) : Prop := ∀ i, i < n → (f i).p = -1 ∧ (f i).h = -1 ∧ (f i).n = 1

/-- What is so of all places while those are used again. -/
def Fine (f : Nat → Nd) (n : Nat) : Prop := ∀ i, i < n → (f i).u = false → (f i).n = 1

theorem Ones.fine {f : Nat → Nd} {n : Nat} (h : Ones f n) : Fine f n := fun i hi _ => (h i hi).2.2

def freed (f : Nat → Nd) (k : Nat) : Nat → Nd := fun i => if i = k then ⟨false, (f k).n, 0, 0, -1, [], -1, false⟩ else f i

theorem Ones.freed {f : Nat → Nd} {n k : Nat} (h : Ones f n) (hk : k < n) : Ones (freed f k) n := by
  intro i hi
  unfold Ytjlapfgghljidaa.Room.freed
  by_cases e : i = k
  · simp only [if_pos e]
    exact ⟨trivial, trivial, (h k hk).2.2⟩
  · simp only [if_neg e]
    exact h i hi

theorem cnt_freed {f : Nat → Nd} {n k : Nat} (hk : k < n) (hu : (f k).u = true) : cnt (freed f k) n = cnt f n + 1 :=
  cnt_free hu (by simp [freed]) (fun i hi => by simp [freed, hi]) n hk

def made (f : Nat → Nd) (k : Nat) (t : Int) : Nat → Nd := fun i => if i = k then { f k with u := true, n := (f k).n + 1, t := t } else f i

theorem Fine.made {f : Nat → Nd} {n k : Nat} (h : Fine f n) (t : Int) : Fine (made f k t) n := by
  intro i hi hu
  unfold Ytjlapfgghljidaa.Room.made at hu ⊢
  by_cases e : i = k
  · simp only [if_pos e] at hu
    cases hu
  · simp only [if_neg e] at hu ⊢
    exact h i hi hu

theorem cnt_made {f : Nat → Nd} {n k : Nat} (hk : k < n) (hu : (f k).u = false) (t : Int) : cnt f n = cnt (made f k t) n + 1 :=
  cnt_free (by simp [made]) hu (fun i hi => by simp [made, hi]) n hk

end Go.Proofs.Ytjlapfgghljidaa.Room

namespace Go.Proofs.Ytjlapfgghljidaa.Room
open Go.RowKit

theorem tmod_bd (k : Int) (n : Nat) (hn : 0 < n) : -(n : Int) < k.tmod n ∧ k.tmod n < n := by
  have h1 := Int.tmod_lt_of_pos k (b := (n : Int)) (by omega)
  have h2 := Int.tmod_lt_of_pos (-k) (b := (n : Int)) (by omega)
  rw [Int.neg_tmod] at h2
  omega

set_option maxHeartbeats 400000 in
theorem at_in (k : Int) (n : Nat) (hn : 0 < n) (hn' : n ≤ 24) (w : World) :
    Calls Try.prog 24 #[.int .i64 k, .int .i64 n] w fun e w' => ∃ p : Nat, p < n ∧ e = .returned (.int .i64 (p : Int)) ∧ w' = w := by
  obtain ⟨hb1, hb2⟩ := tmod_bd k n hn
  generalize hr : k.tmod (n : Int) = r at hb1 hb2
  by_cases h : r < 0
  · obtain ⟨p, hp⟩ : ∃ p : Nat, (p : Int) = r + n := ⟨(r + n).toNat, by omega⟩
    have HP : Hid ((p : Int) = r + n) := hp
    clear hp
    go_enter Try.func24, Try.ntmps24
    go_wp2
    go_ret
    exact ⟨p, by have := HP.out; omega, by rw [HP.out]; rfl, rfl⟩
  · obtain ⟨p, hp⟩ : ∃ p : Nat, (p : Int) = r := ⟨r.toNat, by omega⟩
    have HP : Hid ((p : Int) = r) := hp
    clear hp
    go_enter Try.func24, Try.ntmps24
    go_wp2
    go_ret
    exact ⟨p, by have := HP.out; omega, by rw [HP.out]; rfl, rfl⟩

set_option maxHeartbeats 1600000 in
theorem room_bad (a0 : Int) (v : Value) (w : World) (ha : a0 < 0 ∨ 24 < a0) :
    Calls Try.prog 5 #[.int .i64 a0, v] w fun e w' => e = .returned (.bool true) ∧ Below w.heap.size w w' := by
  go_enter Try.func5, Try.ntmps5
  go_wp2_with fail
  refine (new_badXe a0 w ha).mono ?_
  rintro e w1 ⟨rfl, hb1⟩
  go_wp2_with fail
  refine (stored_any _).mono ?_
  rintro e w2 ⟨rfl, hb2⟩
  go_wp2_with fail
  refine (stored_any _).mono ?_
  rintro e w3 ⟨rfl, hb3⟩
  go_wp2
  go_ret
  refine ⟨rfl, ?_⟩
  have h2 := hb2.size
  simp only [World.size_alloc] at hb2 h2
  have h1 := hb1.size
  exact ((hb1.alloc h1 _).trans (hb2.mono (by omega))).trans (hb3.mono (by omega))

def fill (k : Nat) : Nat → Nd := fun i => if i < k then ⟨true, 1, 1, 0, -1, [], -1, false⟩ else ⟨false, 0, 0, 0, -1, [], -1, false⟩

theorem fill_step {w : World} {g n k : Nat} (h : Sto w g n (fun i => if i = k then { fill k k with u := true, n := (fill k k).n + 1, t := 1 } else fill k i)) : Sto w g n (fill (k + 1)) := by
  refine h.congr (fun i hi => ?_)
  dsimp only
  by_cases e : i = k
  · subst e
    simp [fill]
  · rw [if_neg e]
    simp only [fill]
    by_cases e2 : i < k
    · rw [if_pos e2, if_pos (by omega)]
    · rw [if_neg e2, if_neg (by omega)]

set_option maxHeartbeats 1600000 in
theorem room_ok (n : Nat) (b off : Nat) (len cap : Nat) (z : Nat → Int) (w : World) (hn : n ≤ 24) (hlc : len ≤ cap) (hcm : cap ≤ 9223372036854775807) (hbw : b < w.heap.size) (hz : ∀ i, i < len → w.cell? ⟨b, off + i, none⟩ = some (.int .i64 (z i))) :
    Calls Try.prog 5 #[.int .i64 n, .slice (some ⟨b, off, none⟩) len cap] w fun e w' => e = .returned (.bool true) ∧ Below w.heap.size w w' := by
  have HZ : Hid (∀ i, i < len → w.cell? ⟨b, off + i, none⟩ = some (.int .i64 (z i))) := hz
  clear hz
  go_enter Try.func5, Try.ntmps5
  go_wp2_with fail
  refine (new_any n w hn).mono ?_
  rintro e w1 ⟨g0, rfl, hb1, hg0, hS1⟩
  have hs1 := hb1.size
  have hl1 := hS1.lt
  have HS1 : Hid (Sto w1 g0 n (fill 0)) := hS1.congr (fun i _ => by simp [fill])
  have HB1 : Hid (Below w.heap.size w w1) := hb1
  clear hS1 hb1
  go_wp2_with fail
  refine (stored_any _).mono ?_
  rintro e w2 ⟨rfl, hb2⟩
  have hs2 := hb2.size
  simp only [World.size_alloc] at hb2 hs2
  have hp2 : w2.cell? ⟨w1.heap.size, 0, none⟩ = some (.slice (some ⟨g0, 0, none⟩) n n) := (hb2.cell (by simp)).trans (by go_simp)
  have hf2 : w2.frozen? ⟨w1.heap.size, 0, none⟩ = false := (hb2.frozen (by simp)).trans (by go_simp)
  have HB2 : Hid (Below w.heap.size w w2) := (HB1.out.alloc hs1 _).trans (hb2.mono (by omega))
  have HS2 : Hid (Sto w2 g0 n (fill 0)) := (HS1.out.alloc _).below hb2 (by omega)
  clear hb2 HS1 HB1
  go_wp2_with fail
  go_loopg [6, 29] n (fun gk s6 s29 wr => ∃ k g : Nat, k ≤ n ∧ n - k ≤ gk ∧ s29 = .int .i64 k ∧ Below w.heap.size w wr ∧ w1.heap.size < wr.heap.size ∧ g ≠ w1.heap.size ∧ wr.cell? ⟨w1.heap.size, 0, none⟩ = some (.slice (some ⟨g, 0, none⟩) n n) ∧ wr.frozen? ⟨w1.heap.size, 0, none⟩ = false ∧ Sto wr g n (fill k))
  case atStart => exact ⟨0, g0, by omega, by omega, rfl, HB2.out, by omega, by omega, hp2, hf2, HS2.out⟩
  case round =>
    obtain ⟨k, g, hk, hg, rfl, hb, hsz, hne, hc, hf, hS⟩ := hrel
    clear hp2 hf2 HB2 HS2
    have HS : Hid (Sto wr g n (fill k)) := hS
    have hlg := hS.lt
    have HB : Hid (Below w.heap.size w wr) := hb
    clear hS hb
    by_cases hlt : k < n
    · go_wp2_with fail
      refine (make_ok g n n (fill k) 1 wr hn HS.out (by omega) (by omega) k hlt (by simp [fill]) (by simp [fill]) (by simp [fill]) (fun i hi => by simp [fill, hi])).mono ?_
      rintro e w3 ⟨g3, rfl, hb3, hg3, hS3⟩
      have hs3 := hb3.size
      have hc3 : w3.cell? ⟨w1.heap.size, 0, none⟩ = some (.slice (some ⟨g, 0, none⟩) n n) := (hb3.cell (by exact hsz)).trans hc
      have hf3 : w3.frozen? ⟨w1.heap.size, 0, none⟩ = false := (hb3.frozen (by exact hsz)).trans hf
      have HS3 : Hid (Sto w3 g3 n (fill (k + 1))) := fill_step hS3
      have HB3 : Hid (Below w.heap.size w w3) := HB.out.trans (hb3.mono (by have := HB.out.size; omega))
      have hlt3 : w1.heap.size < w3.heap.size := by omega
      clear hS3 hb3 hc hf HS HB
      go_wp2
      go_roundg (n - (k + 1))
      case measure => omega
      case rel =>
        refine ⟨k + 1, g3, by omega, by omega, by go_num, HB3.out.setCell (by simp; omega) _, by simp; omega, by omega, ?_, ?_, HS3.out.setOther (by simp; omega) _⟩
        · go_simp
        · go_simp
    · have : k = n := by omega
      subst this
      go_wp2_with fail
      refine (make_many g k k (fill k) 1 wr hn HS.out (by omega) (by omega) (fun i hi => by simp [fill, hi])).mono ?_
      rintro e w3 ⟨rfl, hb3⟩
      have hs3 := hb3.size
      have hc3 : w3.cell? ⟨w1.heap.size, 0, none⟩ = some (.slice (some ⟨g, 0, none⟩) k k) := (hb3.cell (by exact hsz)).trans hc
      have hf3 : w3.frozen? ⟨w1.heap.size, 0, none⟩ = false := (hb3.frozen (by exact hsz)).trans hf
      have HS3 : Hid (Sto w3 g k (fill k)) := HS.out.below hb3 hlg
      have HB3 : Hid (Below w.heap.size w w3) := HB.out.trans (hb3.mono (by have := HB.out.size; omega))
      have hlt3 : w1.heap.size < w3.heap.size := by omega
      clear hb3 hc hf HS HB
      go_wp2_with fail
      obtain ⟨M, hM, hM1, hM2⟩ : ∃ M : Nat, min (len : Int) 30 = (M : Int) ∧ M ≤ len ∧ M ≤ 30 := ⟨min len 30, by omega, by omega, by omega⟩
      rw [hM, show max (M : Int) 0 = (M : Int) from by omega, Int.toNat_natCast]
      · go_loopg [10, 54] M (fun gk s10 s54 wr => ∃ (j g r : Nat) (f : Nat → Nd), j ≤ M ∧ M - j ≤ gk ∧ s54 = .int .i64 j ∧ s10 = .int .i64 r ∧ r = cnt f k ∧ r ≤ j ∧ Ones f k ∧ Below w.heap.size w wr ∧ w1.heap.size < wr.heap.size ∧ g ≠ w1.heap.size ∧ wr.cell? ⟨w1.heap.size, 0, none⟩ = some (.slice (some ⟨g, 0, none⟩) k k) ∧ wr.frozen? ⟨w1.heap.size, 0, none⟩ = false ∧ Sto wr g k f)
        case atStart =>
          refine ⟨0, g, 0, fill k, by omega, by omega, rfl, rfl, (cnt_all k (fun i hi => by simp [fill, hi])).symm, by omega, fun i hi => by simp [fill, hi], (HB3.out.alloc (by have := HB3.out.size; omega) _).alloc (by have := HB3.out.size; simp; omega) _, by simp; omega, hne, by go_simp, by go_simp, (HS3.out.alloc _).alloc _⟩
        case round =>
          obtain ⟨j, g', r, f, hj, hgk, rfl, rfl, hr, hrj, hF, hb, hsz', hne', hc', hf', hS⟩ := hrel
          have hlg' := hS.lt
          have HS : Hid (Sto wr g' k f) := hS
          have HB : Hid (Below w.heap.size w wr) := hb
          have HR : Hid (r = cnt f k) := hr
          have HF : Hid (Ones f k) := hF
          have hwr := hb.size
          clear hc3 hf3 HS3 HB3 hlt3 hS hb hr hF
          by_cases hround : j < M ∧ 0 < k
          · obtain ⟨hjl, hk0⟩ := hround
            have hzj : wr.cell? ⟨b, off + j, none⟩ = some (.int .i64 (z j)) := (HB.out.cell (by exact hbw)).trans (HZ.out j (by omega))
            go_wp2_with (go_at_call 24; refine (at_in _ _ hk0 hn _).mono ?_; rintro e w' ⟨p, hp, rfl, rfl⟩)
            obtain ⟨d0, d1, d2, d3, d4, ⟨la, lc, d5⟩, d6, d7⟩ := HS.out.node hp
            obtain ⟨fp, fh, f2⟩ := HF.out p hp
            have f1 : 1 ≤ (f p).n := by omega
            have hpk : (p : Int) < (k : Int) := by omega
            have HP : Hid ((f p).p = -1) := fp
            have HH : Hid ((f p).h = -1) := fh
            clear d0 d2 d3 d4 d5 d6 d7 fp fh f2 hzj
            cases hu : (f p).u
            · have HU : Hid ((f p).u = false) := hu
              clear hu
              have ne1 := World.new_ne w' _ hc'
              have ne2 := World.new_ne w' _ d1
              go_region_held3 (fun w'' => w''.cell? ⟨w1.heap.size, 0, none⟩ = some (.slice (some ⟨g', 0, none⟩) k k) ∧ w''.cell? ⟨g', p * 8 + 1, none⟩ = some (.int .i64 (f p).n)) (go_keep) (first | (go_at_call 13; refine (free_gone g' k k f p _ _ hn HS.out.drew hp f1 (Int.le_refl _) (Or.inl HU.out)).mono ?_; rintro e w4 ⟨rfl, hb4⟩; have m1 : w4.cell? ⟨w1.heap.size, 0, none⟩ = some (.slice (some ⟨g', 0, none⟩) k k) := (hb4.cell (by exact hsz')).trans hc'; have m2 : w4.cell? ⟨g', p * 8 + 1, none⟩ = some (.int .i64 (f p).n) := (hb4.cell (by exact hlg')).trans d1; have m3 : w4.frozen? ⟨w1.heap.size, 0, none⟩ = false := (hb4.frozen (by exact hsz')).trans hf'; have m4 : w1.heap.size < w4.heap.size := Nat.lt_of_lt_of_le hsz' hb4.size; have m5 : g' < w4.heap.size := Nat.lt_of_lt_of_le hlg' hb4.size; have HB4 : Hid (Below w.heap.size w w4) := HB.out.drew.trans (hb4.mono hwr); have HS4 : Hid (Sto w4 g' k f) := HS.out.drew.below hb4 hlg'; clear hb4) | (go_at_call 13; refine (free_gone g' k k f p _ _ hn (HS.out.alloc _).drew hp f1 (Int.le_refl _) (Or.inl HU.out)).mono ?_; rintro e w4 ⟨rfl, hb4⟩; have m1 : w4.cell? ⟨w1.heap.size, 0, none⟩ = some (.slice (some ⟨g', 0, none⟩) k k) := (hb4.cell (by simp; omega)).trans (by go_simp); have m2 : w4.cell? ⟨g', p * 8 + 1, none⟩ = some (.int .i64 (f p).n) := (hb4.cell (by simp; omega)).trans (by go_simp); have m3 : w4.frozen? ⟨w1.heap.size, 0, none⟩ = false := (hb4.frozen (by simp; omega)).trans (by go_simp); have hs4 := hb4.size; simp only [World.size_drew, World.size_alloc] at hs4; have m4 : w1.heap.size < w4.heap.size := (by omega); have m5 : g' < w4.heap.size := (by omega); have m6 : w4.cell? ⟨w'.heap.size, 0, none⟩ = some (.slice none 0 0) := (hb4.cell (by simp)).trans (by go_simp); have m7 : w4.frozen? ⟨w'.heap.size, 0, none⟩ = false := (hb4.frozen (by simp)).trans (by go_simp); have HB4 : Hid (Below w.heap.size w w4) := (HB.out.alloc hwr _).drew.trans (hb4.mono (by simp; omega)); have HS4 : Hid (Sto w4 g' k f) := (HS.out.alloc _).drew.below hb4 (by simp; omega); clear hb4))
              · go_wp2
                go_roundg (M - (j + 1))
                case measure => omega
                case rel =>
                  refine ⟨j + 1, g', r, f, by omega, by omega, by go_num, rfl, HR.out, by omega, HF.out, ?_, by simp; omega, hne', ?_, ?_, ?_⟩
                  · exact HB4.out.alloc (by have := HB4.out.size; omega) _
                  · go_simp
                  · go_simp
                  · exact HS4.out.alloc _
              · go_wp2
                go_roundg (M - (j + 1))
                case measure => omega
                case rel =>
                  refine ⟨j + 1, g', r, f, by omega, by omega, by go_num, rfl, HR.out, by omega, HF.out, ?_, by simp; omega, hne', ?_, ?_, ?_⟩
                  · exact HB4.out.setCell (by omega) _
                  · go_simp
                  · go_simp
                  · exact HS4.out.setOther (by simp; omega) _
            · have HU : Hid ((f p).u = true) := hu
              clear hu
              have ne1 := World.new_ne w' _ hc'
              have ne2 := World.new_ne w' _ d1
              go_region_held3 (fun w'' => w''.cell? ⟨w1.heap.size, 0, none⟩ = some (.slice (some ⟨g', 0, none⟩) k k) ∧ w''.cell? ⟨g', p * 8 + 1, none⟩ = some (.int .i64 (f p).n)) (go_keep) (first | (go_at_call 13; refine (free_ok g' k k f p _ hn HS.out.drew hp HU.out f1 HP.out HH.out (fun i hi => by rw [(HF.out i hi).2.1]; omega)).mono ?_; rintro e w4 ⟨g4, rfl, hb4, hg4, hS4⟩; have m1 : w4.cell? ⟨w1.heap.size, 0, none⟩ = some (.slice (some ⟨g', 0, none⟩) k k) := (hb4.cell (by exact hsz')).trans hc'; have m2 : w4.cell? ⟨g', p * 8 + 1, none⟩ = some (.int .i64 (f p).n) := (hb4.cell (by exact hlg')).trans d1; have m3 : w4.frozen? ⟨w1.heap.size, 0, none⟩ = false := (hb4.frozen (by exact hsz')).trans hf'; have m4 : w1.heap.size < w4.heap.size := Nat.lt_of_lt_of_le hsz' hb4.size; have m5 : g' < w4.heap.size := Nat.lt_of_lt_of_le hlg' hb4.size; have HB4 : Hid (Below w.heap.size w w4) := HB.out.drew.trans (hb4.mono hwr); have hl4 := hS4.lt; have m8 : w1.heap.size < g4 := Nat.lt_of_lt_of_le hsz' hg4; have HS4 : Hid (Sto w4 g4 k (freed f p)) := hS4; clear hS4 hb4) | (go_at_call 13; refine (free_ok g' k k f p _ hn (HS.out.alloc _).drew hp HU.out f1 HP.out HH.out (fun i hi => by rw [(HF.out i hi).2.1]; omega)).mono ?_; rintro e w4 ⟨g4, rfl, hb4, hg4, hS4⟩; have m1 : w4.cell? ⟨w1.heap.size, 0, none⟩ = some (.slice (some ⟨g', 0, none⟩) k k) := (hb4.cell (by simp; omega)).trans (by go_simp); have m2 : w4.cell? ⟨g', p * 8 + 1, none⟩ = some (.int .i64 (f p).n) := (hb4.cell (by simp; omega)).trans (by go_simp); have m3 : w4.frozen? ⟨w1.heap.size, 0, none⟩ = false := (hb4.frozen (by simp; omega)).trans (by go_simp); have hs4 := hb4.size; simp only [World.size_drew, World.size_alloc] at hs4 hg4; have m4 : w1.heap.size < w4.heap.size := (by omega); have m5 : g' < w4.heap.size := (by omega); have m6 : w4.cell? ⟨w'.heap.size, 0, none⟩ = some (.slice none 0 0) := (hb4.cell (by simp)).trans (by go_simp); have m7 : w4.frozen? ⟨w'.heap.size, 0, none⟩ = false := (hb4.frozen (by simp)).trans (by go_simp); have HB4 : Hid (Below w.heap.size w w4) := (HB.out.alloc hwr _).drew.trans (hb4.mono (by simp; omega)); have hl4 := hS4.lt; have m8 : w1.heap.size < g4 := (by omega); have m9 : w'.heap.size < g4 := (by omega); have HS4 : Hid (Sto w4 g4 k (freed f p)) := hS4; clear hS4 hb4))
              · go_wp2
                go_roundg (M - (j + 1))
                case measure => omega
                case rel =>
                  refine ⟨j + 1, g4, r + 1, freed f p, by omega, by omega, by go_num, by go_num, ?_, by omega, HF.out.freed hp, ?_, by simp; omega, by omega, ?_, ?_, ?_⟩
                  · rw [cnt_freed hp HU.out, ← HR.out]
                  · exact (HB4.out.setCell (by omega) _).alloc (by have := HB4.out.size; simp; omega) _
                  · go_simp
                  · go_simp
                  · exact (HS4.out.setOther (by simp; omega) _).alloc _
              · go_wp2
                go_roundg (M - (j + 1))
                case measure => omega
                case rel =>
                  refine ⟨j + 1, g4, r + 1, freed f p, by omega, by omega, by go_num, by go_num, ?_, by omega, HF.out.freed hp, ?_, by simp; omega, by omega, ?_, ?_, ?_⟩
                  · rw [cnt_freed hp HU.out, ← HR.out]
                  · exact (HB4.out.setCell (by omega) _).setCell (by omega) _
                  · go_simp
                  · go_simp
                  · exact (HS4.out.setOther (by simp; omega) _).setOther (by simp; omega) _
          · have hex : ¬ j < M ∨ k = 0 := by omega
            clear hround
            have hrest : r = cnt f k ∧ Fine f k := ⟨HR.out, HF.out.fine⟩
            by_cases hjl : j < M
            · have hk0 : k = 0 := by omega
              have hzj : wr.cell? ⟨b, off + j, none⟩ = some (.int .i64 (z j)) := (HB.out.cell (by exact hbw)).trans (HZ.out j (by omega))
              have HREST : Hid (r = cnt f k ∧ Fine f k) := hrest
              have HK : Hid (k = 0) := hk0
              have hk1 : (k : Int) = 0 := by omega
              clear hrest hex hk0
              go_wp2_with fail
              clear hk1 hzj
              have hr30 : r ≤ 30 := by omega
              obtain ⟨hr0, hF0⟩ := HREST.out
              go_loopg [6, 83] r (fun gk s6 s83 wr => ∃ (i g : Nat) (f : Nat → Nd), i ≤ r ∧ r - i ≤ gk ∧ s83 = .int .i64 i ∧ cnt f k + i = r ∧ Fine f k ∧ Below w.heap.size w wr ∧ w1.heap.size < wr.heap.size ∧ g ≠ w1.heap.size ∧ wr.cell? ⟨w1.heap.size, 0, none⟩ = some (.slice (some ⟨g, 0, none⟩) k k) ∧ wr.frozen? ⟨w1.heap.size, 0, none⟩ = false ∧ Sto wr g k f)
              case atStart => exact ⟨0, g', f, by omega, by omega, rfl, by omega, hF0, HB.out, hsz', hne', hc', hf', HS.out⟩
              case round =>
                obtain ⟨i, g5, f5, hi, hgi, rfl, hcn, hF5, hb5, hsz5, hne5, hc5, hf5, hS5⟩ := hrel
                have hlg5 := hS5.lt
                have HS5 : Hid (Sto wr g5 k f5) := hS5
                have HB5 : Hid (Below w.heap.size w wr) := hb5
                have hwr5 := hb5.size
                have HF5 : Hid (Fine f5 k) := hF5
                have HCN : Hid (cnt f5 k + i = r) := hcn
                clear hS5 hb5 hF5 hcn hc' hf' HS HB HREST hr0 hF0 HR HF
                by_cases hil : i < r
                · obtain ⟨q, hq, hqu, hqa⟩ := cnt_pos (f := f5) k (by have := HCN.out; omega)
                  have hq1 := HF5.out q hq hqu
                  have HQ : Hid ((f5 q).u = false ∧ (f5 q).n = 1 ∧ ∀ i, i < q → (f5 i).u = true) := ⟨hqu, hq1, hqa⟩
                  clear hqu hq1 hqa
                  go_wp2_with fail
                  refine (make_ok g5 k k f5 2 wr hn HS5.out (by omega) (by omega) q hq HQ.out.1 (by rw [HQ.out.2.1]; omega) (by rw [HQ.out.2.1]; omega) (fun i hi => Or.inl (HQ.out.2.2 i hi))).mono ?_
                  rintro e w6 ⟨g6, rfl, hb6, hg6, hS6⟩
                  have hs6 := hb6.size
                  have hc6 : w6.cell? ⟨w1.heap.size, 0, none⟩ = some (.slice (some ⟨g5, 0, none⟩) k k) := (hb6.cell (by exact hsz5)).trans hc5
                  have hf6 : w6.frozen? ⟨w1.heap.size, 0, none⟩ = false := (hb6.frozen (by exact hsz5)).trans hf5
                  have HS6 : Hid (Sto w6 g6 k (made f5 q 2)) := hS6
                  have HB6 : Hid (Below w.heap.size w w6) := HB5.out.trans (hb6.mono hwr5)
                  clear hS6 hb6 hc5 hf5 HS5 HB5
                  go_wp2
                  go_roundg (r - (i + 1))
                  case measure => omega
                  case rel =>
                    refine ⟨i + 1, g6, made f5 q 2, by omega, by omega, by go_num, ?_, HF5.out.made 2, HB6.out.setCell (by omega) _, by simp; omega, by omega, ?_, ?_, HS6.out.setOther (by simp; omega) _⟩
                    · have h1 := HCN.out
                      have h2 := cnt_made hq HQ.out.1 2
                      omega
                    · go_simp
                    · go_simp
                · have hz0 : cnt f5 k = 0 := by have := HCN.out; omega
                  have HZ0 : Hid (cnt f5 k = 0) := hz0
                  clear hz0
                  go_wp2_with fail
                  refine (make_many g5 k k f5 3 wr hn HS5.out (by omega) (by omega) (fun i hi => Or.inl (cnt_zero k HZ0.out i hi))).mono ?_
                  rintro e w6 ⟨rfl, hb6⟩
                  have HB6 : Hid (Below w.heap.size w w6) := HB5.out.trans (hb6.mono hwr5)
                  clear hb6
                  go_wp2
                  go_ret
                  exact ⟨rfl, HB6.out⟩
            · have HREST : Hid (r = cnt f k ∧ Fine f k) := hrest
              clear hrest hex
              go_wp2_with fail
              have hr30 : r ≤ 30 := by omega
              obtain ⟨hr0, hF0⟩ := HREST.out
              go_loopg [6, 83] r (fun gk s6 s83 wr => ∃ (i g : Nat) (f : Nat → Nd), i ≤ r ∧ r - i ≤ gk ∧ s83 = .int .i64 i ∧ cnt f k + i = r ∧ Fine f k ∧ Below w.heap.size w wr ∧ w1.heap.size < wr.heap.size ∧ g ≠ w1.heap.size ∧ wr.cell? ⟨w1.heap.size, 0, none⟩ = some (.slice (some ⟨g, 0, none⟩) k k) ∧ wr.frozen? ⟨w1.heap.size, 0, none⟩ = false ∧ Sto wr g k f)
              case atStart => exact ⟨0, g', f, by omega, by omega, rfl, by omega, hF0, HB.out, hsz', hne', hc', hf', HS.out⟩
              case round =>
                obtain ⟨i, g5, f5, hi, hgi, rfl, hcn, hF5, hb5, hsz5, hne5, hc5, hf5, hS5⟩ := hrel
                have hlg5 := hS5.lt
                have HS5 : Hid (Sto wr g5 k f5) := hS5
                have HB5 : Hid (Below w.heap.size w wr) := hb5
                have hwr5 := hb5.size
                have HF5 : Hid (Fine f5 k) := hF5
                have HCN : Hid (cnt f5 k + i = r) := hcn
                clear hS5 hb5 hF5 hcn hc' hf' HS HB HREST hr0 hF0 HR HF
                by_cases hil : i < r
                · obtain ⟨q, hq, hqu, hqa⟩ := cnt_pos (f := f5) k (by have := HCN.out; omega)
                  have hq1 := HF5.out q hq hqu
                  have HQ : Hid ((f5 q).u = false ∧ (f5 q).n = 1 ∧ ∀ i, i < q → (f5 i).u = true) := ⟨hqu, hq1, hqa⟩
                  clear hqu hq1 hqa
                  go_wp2_with fail
                  refine (make_ok g5 k k f5 2 wr hn HS5.out (by omega) (by omega) q hq HQ.out.1 (by rw [HQ.out.2.1]; omega) (by rw [HQ.out.2.1]; omega) (fun i hi => Or.inl (HQ.out.2.2 i hi))).mono ?_
                  rintro e w6 ⟨g6, rfl, hb6, hg6, hS6⟩
                  have hs6 := hb6.size
                  have hc6 : w6.cell? ⟨w1.heap.size, 0, none⟩ = some (.slice (some ⟨g5, 0, none⟩) k k) := (hb6.cell (by exact hsz5)).trans hc5
                  have hf6 : w6.frozen? ⟨w1.heap.size, 0, none⟩ = false := (hb6.frozen (by exact hsz5)).trans hf5
                  have HS6 : Hid (Sto w6 g6 k (made f5 q 2)) := hS6
                  have HB6 : Hid (Below w.heap.size w w6) := HB5.out.trans (hb6.mono hwr5)
                  clear hS6 hb6 hc5 hf5 HS5 HB5
                  go_wp2
                  go_roundg (r - (i + 1))
                  case measure => omega
                  case rel =>
                    refine ⟨i + 1, g6, made f5 q 2, by omega, by omega, by go_num, ?_, HF5.out.made 2, HB6.out.setCell (by omega) _, by simp; omega, by omega, ?_, ?_, HS6.out.setOther (by simp; omega) _⟩
                    · have h1 := HCN.out
                      have h2 := cnt_made hq HQ.out.1 2
                      omega
                    · go_simp
                    · go_simp
                · have hz0 : cnt f5 k = 0 := by have := HCN.out; omega
                  have HZ0 : Hid (cnt f5 k = 0) := hz0
                  clear hz0
                  go_wp2_with fail
                  refine (make_many g5 k k f5 3 wr hn HS5.out (by omega) (by omega) (fun i hi => Or.inl (cnt_zero k HZ0.out i hi))).mono ?_
                  rintro e w6 ⟨rfl, hb6⟩
                  have HB6 : Hid (Below w.heap.size w w6) := HB5.out.trans (hb6.mono hwr5)
                  clear hb6
                  go_wp2
                  go_ret
                  exact ⟨rfl, HB6.out⟩
end Go.Proofs.Ytjlapfgghljidaa.Room
