/-
  The walk of StoreRoom where there is no number to free by.
-/
import Derived.Test.YtjlapfgghljidaaUXgXh
namespace Go.Proofs.Ytjlapfgghljidaa.Room
open Go.RowKit

set_option maxHeartbeats 1600000 in
theorem room_zero (n : Nat) (x : Option Addr) (cap : Nat) (w : World) (hn : n ≤ 24) :
    Calls Try.prog 5 #[.int .i64 n, .slice x 0 cap] w fun e w' => e = .returned (.bool true) ∧ Below w.heap.size w w' := by
  go_enter Try.func5, Try.ntmps5
  go_wp2_with fail
  refine (new_any n w hn).mono ?_
  rintro e w1 ⟨g0, rfl, hb1, hg0, hS1⟩
  have hs1 := hb1.size
  have hl1 := hS1.lt
  have HS1 : Hid (Sto w1 g0 n (fill 0)) := hS1.congr (fun i _ => by simp [fill])
  have HB1 : Hid (Below w.heap.size w w1) := hb1
  clear hS1 hb1
  go_wp2_with fail
  refine (stored_any _).mono ?_
  rintro e w2 ⟨rfl, hb2⟩
  have hs2 := hb2.size
  simp only [World.size_alloc] at hb2 hs2
  have hp2 : w2.cell? ⟨w1.heap.size, 0, none⟩ = some (.slice (some ⟨g0, 0, none⟩) n n) := (hb2.cell (by simp)).trans (by go_simp)
  have hf2 : w2.frozen? ⟨w1.heap.size, 0, none⟩ = false := (hb2.frozen (by simp)).trans (by go_simp)
  have HB2 : Hid (Below w.heap.size w w2) := (HB1.out.alloc hs1 _).trans (hb2.mono (by omega))
  have HS2 : Hid (Sto w2 g0 n (fill 0)) := (HS1.out.alloc _).below hb2 (by omega)
  clear hb2 HS1 HB1
  go_wp2_with fail
  go_loopg [6, 29] n (fun gk s6 s29 wr => ∃ k g : Nat, k ≤ n ∧ n - k ≤ gk ∧ s29 = .int .i64 k ∧ Below w.heap.size w wr ∧ w1.heap.size < wr.heap.size ∧ g ≠ w1.heap.size ∧ wr.cell? ⟨w1.heap.size, 0, none⟩ = some (.slice (some ⟨g, 0, none⟩) n n) ∧ wr.frozen? ⟨w1.heap.size, 0, none⟩ = false ∧ Sto wr g n (fill k))
  case atStart => exact ⟨0, g0, by omega, by omega, rfl, HB2.out, by omega, by omega, hp2, hf2, HS2.out⟩
  case round =>
    obtain ⟨k, g, hk, hg, rfl, hb, hsz, hne, hc, hf, hS⟩ := hrel
    clear hp2 hf2 HB2 HS2
    have HS : Hid (Sto wr g n (fill k)) := hS
    have hlg := hS.lt
    have HB : Hid (Below w.heap.size w wr) := hb
    clear hS hb
    by_cases hlt : k < n
    · go_wp2_with fail
      refine (make_ok g n n (fill k) 1 wr hn HS.out (by omega) (by omega) k hlt (by simp [fill]) (by simp [fill]) (by simp [fill]) (fun i hi => by simp [fill, hi])).mono ?_
      rintro e w3 ⟨g3, rfl, hb3, hg3, hS3⟩
      have hs3 := hb3.size
      have hc3 : w3.cell? ⟨w1.heap.size, 0, none⟩ = some (.slice (some ⟨g, 0, none⟩) n n) := (hb3.cell (by exact hsz)).trans hc
      have hf3 : w3.frozen? ⟨w1.heap.size, 0, none⟩ = false := (hb3.frozen (by exact hsz)).trans hf
      have HS3 : Hid (Sto w3 g3 n (fill (k + 1))) := fill_step hS3
      have HB3 : Hid (Below w.heap.size w w3) := HB.out.trans (hb3.mono (by have := HB.out.size; omega))
      have hlt3 : w1.heap.size < w3.heap.size := by omega
      clear hS3 hb3 hc hf HS HB
      go_wp2
      go_roundg (n - (k + 1))
      case measure => omega
      case rel =>
        refine ⟨k + 1, g3, by omega, by omega, by go_num, HB3.out.setCell (by simp; omega) _, by simp; omega, by omega, ?_, ?_, HS3.out.setOther (by simp; omega) _⟩
        · go_simp
        · go_simp
    · have : k = n := by omega
      subst this
      go_wp2_with fail
      refine (make_many g k k (fill k) 1 wr hn HS.out (by omega) (by omega) (fun i hi => by simp [fill, hi])).mono ?_
      rintro e w3 ⟨rfl, hb3⟩
      have hs3 := hb3.size
      have hc3 : w3.cell? ⟨w1.heap.size, 0, none⟩ = some (.slice (some ⟨g, 0, none⟩) k k) := (hb3.cell (by exact hsz)).trans hc
      have hf3 : w3.frozen? ⟨w1.heap.size, 0, none⟩ = false := (hb3.frozen (by exact hsz)).trans hf
      have HS3 : Hid (Sto w3 g k (fill k)) := HS.out.below hb3 hlg
      have HB3 : Hid (Below w.heap.size w w3) := HB.out.trans (hb3.mono (by have := HB.out.size; omega))
      have hlt3 : w1.heap.size < w3.heap.size := by omega
      clear hb3 hc hf HS HB
      go_wp2_with fail
      go_loopg [10, 54] 0 (fun gk s10 s54 wr => ∃ (j g r : Nat) (f : Nat → Nd), j ≤ 0 ∧ 0 - j ≤ gk ∧ s54 = .int .i64 j ∧ s10 = .int .i64 r ∧ r = cnt f k ∧ r ≤ j ∧ Ones f k ∧ Below w.heap.size w wr ∧ w1.heap.size < wr.heap.size ∧ g ≠ w1.heap.size ∧ wr.cell? ⟨w1.heap.size, 0, none⟩ = some (.slice (some ⟨g, 0, none⟩) k k) ∧ wr.frozen? ⟨w1.heap.size, 0, none⟩ = false ∧ Sto wr g k f)
      case atStart =>
        refine ⟨0, g, 0, fill k, by omega, by omega, rfl, rfl, (cnt_all k (fun i hi => by simp [fill, hi])).symm, by omega, fun i hi => by simp [fill, hi], (HB3.out.alloc (by have := HB3.out.size; omega) _).alloc (by have := HB3.out.size; simp; omega) _, by simp; omega, hne, by go_simp, by go_simp, (HS3.out.alloc _).alloc _⟩
      case round =>
        obtain ⟨j, g', r, f, hj, hgk, rfl, rfl, hr, hrj, hF, hb, hsz', hne', hc', hf', hS⟩ := hrel
        have hlg' := hS.lt
        have HS : Hid (Sto wr g' k f) := hS
        have HB : Hid (Below w.heap.size w wr) := hb
        have HR : Hid (r = cnt f k) := hr
        have HF : Hid (Ones f k) := hF
        have hwr := hb.size
        clear hc3 hf3 HS3 HB3 hlt3 hS hb hr hF
        have hrest : r = cnt f k ∧ Fine f k := ⟨HR.out, HF.out.fine⟩
        have hjl : ¬ j < 0 := by omega
        have HREST : Hid (r = cnt f k ∧ Fine f k) := hrest
        clear hrest
        go_wp2_with fail
        have hr30 : r ≤ 30 := by omega
        obtain ⟨hr0, hF0⟩ := HREST.out
        go_loopg [6, 83] r (fun gk s6 s83 wr => ∃ (i g : Nat) (f : Nat → Nd), i ≤ r ∧ r - i ≤ gk ∧ s83 = .int .i64 i ∧ cnt f k + i = r ∧ Fine f k ∧ Below w.heap.size w wr ∧ w1.heap.size < wr.heap.size ∧ g ≠ w1.heap.size ∧ wr.cell? ⟨w1.heap.size, 0, none⟩ = some (.slice (some ⟨g, 0, none⟩) k k) ∧ wr.frozen? ⟨w1.heap.size, 0, none⟩ = false ∧ Sto wr g k f)
        case atStart => exact ⟨0, g', f, by omega, by omega, rfl, by omega, hF0, HB.out, hsz', hne', hc', hf', HS.out⟩
        case round =>
          obtain ⟨i, g5, f5, hi, hgi, rfl, hcn, hF5, hb5, hsz5, hne5, hc5, hf5, hS5⟩ := hrel
          have hlg5 := hS5.lt
          have HS5 : Hid (Sto wr g5 k f5) := hS5
          have HB5 : Hid (Below w.heap.size w wr) := hb5
          have hwr5 := hb5.size
          have HF5 : Hid (Fine f5 k) := hF5
          have HCN : Hid (cnt f5 k + i = r) := hcn
          clear hS5 hb5 hF5 hcn hc' hf' HS HB HREST hr0 hF0 HR HF
          by_cases hil : i < r
          · exact absurd hil (by omega)
          · have hz0 : cnt f5 k = 0 := by have := HCN.out; omega
            have HZ0 : Hid (cnt f5 k = 0) := hz0
            clear hz0
            go_wp2_with fail
            refine (make_many g5 k k f5 3 wr hn HS5.out (by omega) (by omega) (fun i hi => Or.inl (cnt_zero k HZ0.out i hi))).mono ?_
            rintro e w6 ⟨rfl, hb6⟩
            have HB6 : Hid (Below w.heap.size w w6) := HB5.out.trans (hb6.mono hwr5)
            clear hb6
            go_wp2
            go_ret
            exact ⟨rfl, HB6.out⟩
end Go.Proofs.Ytjlapfgghljidaa.Room
