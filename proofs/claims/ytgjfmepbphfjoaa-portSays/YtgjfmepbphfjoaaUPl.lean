/-
  PortSays at whatever arguments.
-/
import Derived.Test.YtgjfmepbphfjoaaUPk
import Derived.Test.YtgjfmepbphfjoaaUPc
import Derived.Test.YtgjfmepbphfjoaaUPi
import Derived.Test.YtgjfmepbphfjoaaUPj
namespace Go.Proofs.Ytgjfmepbphfjoaa
open Go.RowKit Go.ChangeShapes Go.WideShapes
set_option linter.unusedVariables false

set_option maxRecDepth 100000 in
set_option maxHeartbeats 8000000 in
theorem portSays_any (hO : OpenAns) (hP : PassAns) (hU : PushAns) (hPl : PullAns) (hS : ShutAns) (hC : PCheckAns) (hM : PSameAns) (a : Option Addr) (c : Nat) (L : List Pt) (Fr k o t to' : Int) (ga : Option Addr) (gc : Nat) (G : List Cl) (w : World) (hN : L.length ≤ 9223372036854775807) (hB : BigP L) (hsl : SlA a L.length c) (hL : PtsAt w a L) (hGN : G.length ≤ 9223372036854775807) (hGB : BigC G) (hG : ClsAt w ga G) :
    Calls Try.prog 3 #[.slice a L.length c, .int .i64 Fr, .int .i64 k, .int .i64 o, .int .i64 t, .int .i64 to', .agg #[.slice ga G.length gc]] w fun e w' => e = .returned (.bool true) ∧ Below w.heap.size w w' := by
  have D1 : Hid (∀ W, PtsAt W a L → _) := fun W h => hO a c L Fr o t W hN hB hsl h
  have D2 : Hid (∀ W, PtsAt W a L → _) := fun W h => hP a c L Fr k o t to' t W hN hB hsl h
  have D3 : Hid (∀ W, PtsAt W a L → ClsAt W ga G → _) := fun W h h' => hU a c L Fr k o t ga gc G W hN hB hsl h hGN hGB h'
  have D4 : Hid (∀ W, PtsAt W a L → _) := fun W h => hPl a c L Fr k o t W hN hB hsl h
  have D5 : Hid (∀ W, PtsAt W a L → _) := fun W h => hS a c L Fr k o t W hN hB hsl h
  have R1 : Hid (∀ W, PtsAt W a L → _) := fun W h => ropen_any a c L Fr o t W hN hB h hsl.1
  have R2 : Hid (∀ W, PtsAt W a L → _) := fun W h => rpass_any a c L Fr k o t to' t W hN hB h
  have R3 : Hid (∀ W, PtsAt W a L → ClsAt W ga G → _) := fun W h h' => rpush_any a c L Fr k o t ga gc G W hN hB h hGN hGB h'
  have R4 : Hid (∀ W, PtsAt W a L → _) := fun W h => rpull_any a c L Fr k o t W hN hB h
  have R5 : Hid (∀ W, PtsAt W a L → _) := fun W h => rshut_any a c L Fr k o t W hN hB h
  have DP : Hid PairedOk := paired_ok hO hP hU hPl
  have DC : Hid (∀ W, PtsAt W a L → _) := fun W h => hC a c L Fr W hN hB hsl h
  have RC : Hid (∀ W, PtsAt W a L → _) := fun W h => rpcheck_any a c L Fr W hN hB h
  have DM : Hid (∀ W, PtsAt W a L → Calls Try.prog 18 #[.slice a L.length c, .slice a L.length c] W fun e w' => e = .returned (.bool true) ∧ Below W.heap.size W w') := fun W h => by
    refine (hM a a c c L L W hN hB h h).mono ?_
    rintro e w' ⟨r, rfl, hb, hr⟩
    exact ⟨by rw [hr.2 rfl], hb⟩
  have QO : Hid (∀ va va' vc vc' W, PtsAt W va (resO L Fr o t) → PtsAt W va' (resO L Fr o t) → Calls Try.prog 19 #[.slice va (resO L Fr o t).length vc, .slice va' (resO L Fr o t).length vc'] W fun e w' => e = .returned (.bool true) ∧ Below W.heap.size W w') := fun va va' vc vc' W h1 h2 => by
    refine (rsameP_any va va' vc vc' (resO L Fr o t) (resO L Fr o t) W (goodP_len (good_resO L Fr o t)) (good_resO L Fr o t).big h1 h2).mono ?_
    rintro e w' ⟨r, rfl, hb, hr⟩
    exact ⟨by rw [hr.2 rfl], hb⟩
  have QP : Hid (∀ va va' vc vc' W, PtsAt W va (resPass L Fr k o t to' t) → PtsAt W va' (resPass L Fr k o t to' t) → Calls Try.prog 19 #[.slice va (resPass L Fr k o t to' t).length vc, .slice va' (resPass L Fr k o t to' t).length vc'] W fun e w' => e = .returned (.bool true) ∧ Below W.heap.size W w') := fun va va' vc vc' W h1 h2 => by
    refine (rsameP_any va va' vc vc' (resPass L Fr k o t to' t) (resPass L Fr k o t to' t) W (goodP_len (good_resPass L Fr k o t to' t)) (good_resPass L Fr k o t to' t).big h1 h2).mono ?_
    rintro e w' ⟨r, rfl, hb, hr⟩
    exact ⟨by rw [hr.2 rfl], hb⟩
  have QU : Hid (∀ va va' vc vc' W, PtsAt W va (resPush L Fr k o t G) → PtsAt W va' (resPush L Fr k o t G) → Calls Try.prog 19 #[.slice va (resPush L Fr k o t G).length vc, .slice va' (resPush L Fr k o t G).length vc'] W fun e w' => e = .returned (.bool true) ∧ Below W.heap.size W w') := fun va va' vc vc' W h1 h2 => by
    refine (rsameP_any va va' vc vc' (resPush L Fr k o t G) (resPush L Fr k o t G) W (goodP_len (good_resPush L Fr k o t G)) (good_resPush L Fr k o t G).big h1 h2).mono ?_
    rintro e w' ⟨r, rfl, hb, hr⟩
    exact ⟨by rw [hr.2 rfl], hb⟩
  have QL : Hid (∀ va va' vc vc' W, PtsAt W va (resPull L Fr k o t) → PtsAt W va' (resPull L Fr k o t) → Calls Try.prog 19 #[.slice va (resPull L Fr k o t).length vc, .slice va' (resPull L Fr k o t).length vc'] W fun e w' => e = .returned (.bool true) ∧ Below W.heap.size W w') := fun va va' vc vc' W h1 h2 => by
    refine (rsameP_any va va' vc vc' (resPull L Fr k o t) (resPull L Fr k o t) W (goodP_len ((good_resPull L Fr k o t).1)) ((good_resPull L Fr k o t).1).big h1 h2).mono ?_
    rintro e w' ⟨r, rfl, hb, hr⟩
    exact ⟨by rw [hr.2 rfl], hb⟩
  have QS : Hid (∀ va va' vc vc' W, PtsAt W va (resShut L Fr k o t) → PtsAt W va' (resShut L Fr k o t) → Calls Try.prog 19 #[.slice va (resShut L Fr k o t).length vc, .slice va' (resShut L Fr k o t).length vc'] W fun e w' => e = .returned (.bool true) ∧ Below W.heap.size W w') := fun va va' vc vc' W h1 h2 => by
    refine (rsameP_any va va' vc vc' (resShut L Fr k o t) (resShut L Fr k o t) W (goodP_len (good_resShut L Fr k o t)) (good_resShut L Fr k o t).big h1 h2).mono ?_
    rintro e w' ⟨r, rfl, hb, hr⟩
    exact ⟨by rw [hr.2 rfl], hb⟩
  have QG' : Hid (∀ va va' vc vc' W, ClsAt W va (pullG L Fr k o t) → ClsAt W va' (pullG L Fr k o t) → Calls Try.prog 20 #[.agg #[.slice va (pullG L Fr k o t).length vc], .agg #[.slice va' (pullG L Fr k o t).length vc']] W fun e w' => e = .returned (.bool true) ∧ Below W.heap.size W w') := fun va va' vc vc' W h1 h2 => by
    have hr := (good_resPull L Fr k o t).2
    refine (rgsame_any va va' vc vc' (pullG L Fr k o t) (pullG L Fr k o t) W (by have := hr.few; omega) hr.big h1 h2).mono ?_
    rintro e w' ⟨r, rfl, hb, hr⟩
    exact ⟨by rw [hr.2 rfl], hb⟩
  have HL : Hid (PtsAt w a L) := hL
  have HG : Hid (ClsAt w ga G) := hG
  clear hL hG hO hP hU hPl hS hC hM hB hGB hsl
  generalize resO L Fr o t = MO at *
  generalize resPass L Fr k o t to' t = MP at *
  generalize resPush L Fr k o t G = MU at *
  generalize resPull L Fr k o t = ML at *
  generalize resShut L Fr k o t = MS at *
  generalize pullG L Fr k o t = GP at *
  generalize openN L Fr o t = NO at *
  generalize openE L Fr o t = EO at *
  generalize passE L Fr k o t to' t = EP at *
  generalize pushE L Fr k o t G = EU at *
  generalize pullE L Fr k o t = EL at *
  generalize heldPE L Fr k o t = ES at *
  generalize pcheckE L Fr = EC at *
  obtain ⟨lO, hlO⟩ : ∃ z, MO.length = z := ⟨_, rfl⟩
  obtain ⟨lP, hlP⟩ : ∃ z, MP.length = z := ⟨_, rfl⟩
  obtain ⟨lU, hlU⟩ : ∃ z, MU.length = z := ⟨_, rfl⟩
  obtain ⟨lL, hlL⟩ : ∃ z, ML.length = z := ⟨_, rfl⟩
  obtain ⟨lS, hlS⟩ : ∃ z, MS.length = z := ⟨_, rfl⟩
  obtain ⟨lG, hlG⟩ : ∃ z, GP.length = z := ⟨_, rfl⟩
  rw [hlO] at D1 R1 QO
  rw [hlP] at D2 R2 QP
  rw [hlU] at D3 R3 QU
  rw [hlL] at D4 R4 QL
  rw [hlS] at D5 R5 QS
  rw [hlG] at D4 R4 QG'
  clear hlO hlP hlU hlL hlS hlG
  generalize L.length = n at *
  generalize G.length = gl at *
  go_enter Try.func3, Try.ntmps3
  go_wp2_with fail
  obtain ⟨w1, hw1⟩ : ∃ X, w.alloc (.cells #[.slice ga gl gc] 25) = X := ⟨_, rfl⟩
  have gcell : w1.cell? ⟨w.heap.size, 0, none⟩ = some (.slice ga gl gc) := by rw [← hw1]; exact alloc_cell w _ _ 0 rfl
  have HB : Hid (Below w.heap.size w w1) := by rw [← hw1]; exact one_belowS _ _
  rw [hw1]
  clear hw1
  refine Calls.mono (D1.out _ (HL.out.below HB.out)) ?_
  rintro e w2 ⟨va1, vc1, rfl, hb, _, hp⟩
  replace HB : Hid (Below w.heap.size w w2) := HB.out.trans (hb.mono HB.out.size)
  replace gcell := keepC gcell hb
  have K1 : Hid (PtsAt w2 va1 MO) := hp
  clear hb hp
  go_wp2_with fail
  refine Calls.mono (D2.out _ (HL.out.below HB.out)) ?_
  rintro e w3 ⟨va2, vc2, rfl, hb, _, hp⟩
  replace HB : Hid (Below w.heap.size w w3) := HB.out.trans (hb.mono HB.out.size)
  replace gcell := keepC gcell hb
  replace K1 : Hid (PtsAt w3 va1 MO) := K1.out.below hb
  have K2 : Hid (PtsAt w3 va2 MP) := hp
  clear hb hp
  go_wp2_with fail
  refine Calls.mono (D3.out _ (HL.out.below HB.out) (HG.out.below HB.out)) ?_
  rintro e w4 ⟨va3, vc3, rfl, hb, _, hp⟩
  replace HB : Hid (Below w.heap.size w w4) := HB.out.trans (hb.mono HB.out.size)
  replace gcell := keepC gcell hb
  replace K1 : Hid (PtsAt w4 va1 MO) := K1.out.below hb
  replace K2 : Hid (PtsAt w4 va2 MP) := K2.out.below hb
  have K3 : Hid (PtsAt w4 va3 MU) := hp
  clear hb hp
  go_wp2_with fail
  refine Calls.mono (D4.out _ (HL.out.below HB.out)) ?_
  rintro e w5 ⟨va4, vc4, xa, xc, rfl, hb, _, hp, hq⟩
  replace HB : Hid (Below w.heap.size w w5) := HB.out.trans (hb.mono HB.out.size)
  replace gcell := keepC gcell hb
  replace K1 : Hid (PtsAt w5 va1 MO) := K1.out.below hb
  replace K2 : Hid (PtsAt w5 va2 MP) := K2.out.below hb
  replace K3 : Hid (PtsAt w5 va3 MU) := K3.out.below hb
  have K4 : Hid (PtsAt w5 va4 ML) := hp
  have KX : Hid (ClsAt w5 xa GP) := hq
  clear hb hp hq
  go_wp2_with fail
  obtain ⟨w6, hbox⟩ : ∃ X, w5.alloc (.cells #[.slice xa lG xc] 25) = X := ⟨_, rfl⟩
  have hb : Below w5.heap.size w5 w6 := by rw [← hbox]; exact one_belowS _ _
  have xcell : w6.cell? ⟨w5.heap.size, 0, none⟩ = some (.slice xa lG xc) := by rw [← hbox]; exact alloc_cell w5 _ _ 0 rfl
  replace HB : Hid (Below w.heap.size w w6) := HB.out.trans (hb.mono HB.out.size)
  replace gcell := keepC gcell hb
  replace K1 : Hid (PtsAt w6 va1 MO) := K1.out.below hb
  replace K2 : Hid (PtsAt w6 va2 MP) := K2.out.below hb
  replace K3 : Hid (PtsAt w6 va3 MU) := K3.out.below hb
  replace K4 : Hid (PtsAt w6 va4 ML) := K4.out.below hb
  replace KX : Hid (ClsAt w6 xa GP) := KX.out.below hb
  rw [hbox]
  clear hbox hb
  refine Calls.mono (D5.out _ (HL.out.below HB.out)) ?_
  rintro e w7 ⟨va5, vc5, rfl, hb, _, hp⟩
  replace HB : Hid (Below w.heap.size w w7) := HB.out.trans (hb.mono HB.out.size)
  replace gcell := keepC gcell hb
  replace K1 : Hid (PtsAt w7 va1 MO) := K1.out.below hb
  replace K2 : Hid (PtsAt w7 va2 MP) := K2.out.below hb
  replace K3 : Hid (PtsAt w7 va3 MU) := K3.out.below hb
  replace K4 : Hid (PtsAt w7 va4 ML) := K4.out.below hb
  replace KX : Hid (ClsAt w7 xa GP) := KX.out.below hb
  replace xcell := keepC xcell hb
  have K5 : Hid (PtsAt w7 va5 MS) := hp
  clear hb hp
  go_wp2_with fail
  refine Calls.mono (R1.out _ (HL.out.below HB.out)) ?_
  rintro e w8 ⟨vb1, vd1, rfl, hb, hp⟩
  replace HB : Hid (Below w.heap.size w w8) := HB.out.trans (hb.mono HB.out.size)
  replace gcell := keepC gcell hb
  replace K1 : Hid (PtsAt w8 va1 MO) := K1.out.below hb
  replace K2 : Hid (PtsAt w8 va2 MP) := K2.out.below hb
  replace K3 : Hid (PtsAt w8 va3 MU) := K3.out.below hb
  replace K4 : Hid (PtsAt w8 va4 ML) := K4.out.below hb
  replace KX : Hid (ClsAt w8 xa GP) := KX.out.below hb
  replace xcell := keepC xcell hb
  replace K5 : Hid (PtsAt w8 va5 MS) := K5.out.below hb
  have J1 : Hid (PtsAt w8 vb1 MO) := hp
  clear hb hp
  go_wp2_with fail
  refine Calls.mono (R2.out _ (HL.out.below HB.out)) ?_
  rintro e w9 ⟨vb2, vd2, rfl, hb, hp⟩
  replace HB : Hid (Below w.heap.size w w9) := HB.out.trans (hb.mono HB.out.size)
  replace gcell := keepC gcell hb
  replace K1 : Hid (PtsAt w9 va1 MO) := K1.out.below hb
  replace K2 : Hid (PtsAt w9 va2 MP) := K2.out.below hb
  replace K3 : Hid (PtsAt w9 va3 MU) := K3.out.below hb
  replace K4 : Hid (PtsAt w9 va4 ML) := K4.out.below hb
  replace KX : Hid (ClsAt w9 xa GP) := KX.out.below hb
  replace xcell := keepC xcell hb
  replace K5 : Hid (PtsAt w9 va5 MS) := K5.out.below hb
  replace J1 : Hid (PtsAt w9 vb1 MO) := J1.out.below hb
  have J2 : Hid (PtsAt w9 vb2 MP) := hp
  clear hb hp
  go_wp2_with fail
  refine Calls.mono (R3.out _ (HL.out.below HB.out) (HG.out.below HB.out)) ?_
  rintro e w10 ⟨vb3, vd3, rfl, hb, hp⟩
  replace HB : Hid (Below w.heap.size w w10) := HB.out.trans (hb.mono HB.out.size)
  replace gcell := keepC gcell hb
  replace K1 : Hid (PtsAt w10 va1 MO) := K1.out.below hb
  replace K2 : Hid (PtsAt w10 va2 MP) := K2.out.below hb
  replace K3 : Hid (PtsAt w10 va3 MU) := K3.out.below hb
  replace K4 : Hid (PtsAt w10 va4 ML) := K4.out.below hb
  replace KX : Hid (ClsAt w10 xa GP) := KX.out.below hb
  replace xcell := keepC xcell hb
  replace K5 : Hid (PtsAt w10 va5 MS) := K5.out.below hb
  replace J1 : Hid (PtsAt w10 vb1 MO) := J1.out.below hb
  replace J2 : Hid (PtsAt w10 vb2 MP) := J2.out.below hb
  have J3 : Hid (PtsAt w10 vb3 MU) := hp
  clear hb hp
  go_wp2_with fail
  refine Calls.mono (R4.out _ (HL.out.below HB.out)) ?_
  rintro e w11 ⟨vb4, vd4, ya, yc, rfl, hb, hp, hq⟩
  replace HB : Hid (Below w.heap.size w w11) := HB.out.trans (hb.mono HB.out.size)
  replace gcell := keepC gcell hb
  replace K1 : Hid (PtsAt w11 va1 MO) := K1.out.below hb
  replace K2 : Hid (PtsAt w11 va2 MP) := K2.out.below hb
  replace K3 : Hid (PtsAt w11 va3 MU) := K3.out.below hb
  replace K4 : Hid (PtsAt w11 va4 ML) := K4.out.below hb
  replace KX : Hid (ClsAt w11 xa GP) := KX.out.below hb
  replace xcell := keepC xcell hb
  replace K5 : Hid (PtsAt w11 va5 MS) := K5.out.below hb
  replace J1 : Hid (PtsAt w11 vb1 MO) := J1.out.below hb
  replace J2 : Hid (PtsAt w11 vb2 MP) := J2.out.below hb
  replace J3 : Hid (PtsAt w11 vb3 MU) := J3.out.below hb
  have J4 : Hid (PtsAt w11 vb4 ML) := hp
  have KY : Hid (ClsAt w11 ya GP) := hq
  clear hb hp hq
  go_wp2_with fail
  obtain ⟨w12, hbox⟩ : ∃ X, w11.alloc (.cells #[.slice ya lG yc] 25) = X := ⟨_, rfl⟩
  have hb : Below w11.heap.size w11 w12 := by rw [← hbox]; exact one_belowS _ _
  have ycell : w12.cell? ⟨w11.heap.size, 0, none⟩ = some (.slice ya lG yc) := by rw [← hbox]; exact alloc_cell w11 _ _ 0 rfl
  replace HB : Hid (Below w.heap.size w w12) := HB.out.trans (hb.mono HB.out.size)
  replace gcell := keepC gcell hb
  replace K1 : Hid (PtsAt w12 va1 MO) := K1.out.below hb
  replace K2 : Hid (PtsAt w12 va2 MP) := K2.out.below hb
  replace K3 : Hid (PtsAt w12 va3 MU) := K3.out.below hb
  replace K4 : Hid (PtsAt w12 va4 ML) := K4.out.below hb
  replace KX : Hid (ClsAt w12 xa GP) := KX.out.below hb
  replace xcell := keepC xcell hb
  replace K5 : Hid (PtsAt w12 va5 MS) := K5.out.below hb
  replace J1 : Hid (PtsAt w12 vb1 MO) := J1.out.below hb
  replace J2 : Hid (PtsAt w12 vb2 MP) := J2.out.below hb
  replace J3 : Hid (PtsAt w12 vb3 MU) := J3.out.below hb
  replace J4 : Hid (PtsAt w12 vb4 ML) := J4.out.below hb
  replace KY : Hid (ClsAt w12 ya GP) := KY.out.below hb
  rw [hbox]
  clear hbox hb
  refine Calls.mono (R5.out _ (HL.out.below HB.out)) ?_
  rintro e w13 ⟨vb5, vd5, rfl, hb, hp⟩
  replace HB : Hid (Below w.heap.size w w13) := HB.out.trans (hb.mono HB.out.size)
  replace gcell := keepC gcell hb
  replace K1 : Hid (PtsAt w13 va1 MO) := K1.out.below hb
  replace K2 : Hid (PtsAt w13 va2 MP) := K2.out.below hb
  replace K3 : Hid (PtsAt w13 va3 MU) := K3.out.below hb
  replace K4 : Hid (PtsAt w13 va4 ML) := K4.out.below hb
  replace KX : Hid (ClsAt w13 xa GP) := KX.out.below hb
  replace xcell := keepC xcell hb
  replace K5 : Hid (PtsAt w13 va5 MS) := K5.out.below hb
  replace J1 : Hid (PtsAt w13 vb1 MO) := J1.out.below hb
  replace J2 : Hid (PtsAt w13 vb2 MP) := J2.out.below hb
  replace J3 : Hid (PtsAt w13 vb3 MU) := J3.out.below hb
  replace J4 : Hid (PtsAt w13 vb4 ML) := J4.out.below hb
  replace KY : Hid (ClsAt w13 ya GP) := KY.out.below hb
  replace ycell := keepC ycell hb
  have J5 : Hid (PtsAt w13 vb5 MS) := hp
  clear hb hp
  go_wp2_with fail
  refine Calls.mono (DP.out _) ?_
  rintro e w14 ⟨rfl, hb⟩
  replace HB : Hid (Below w.heap.size w w14) := HB.out.trans (hb.mono HB.out.size)
  replace gcell := keepC gcell hb
  replace K1 : Hid (PtsAt w14 va1 MO) := K1.out.below hb
  replace K2 : Hid (PtsAt w14 va2 MP) := K2.out.below hb
  replace K3 : Hid (PtsAt w14 va3 MU) := K3.out.below hb
  replace K4 : Hid (PtsAt w14 va4 ML) := K4.out.below hb
  replace KX : Hid (ClsAt w14 xa GP) := KX.out.below hb
  replace xcell := keepC xcell hb
  replace K5 : Hid (PtsAt w14 va5 MS) := K5.out.below hb
  replace J1 : Hid (PtsAt w14 vb1 MO) := J1.out.below hb
  replace J2 : Hid (PtsAt w14 vb2 MP) := J2.out.below hb
  replace J3 : Hid (PtsAt w14 vb3 MU) := J3.out.below hb
  replace J4 : Hid (PtsAt w14 vb4 ML) := J4.out.below hb
  replace KY : Hid (ClsAt w14 ya GP) := KY.out.below hb
  replace ycell := keepC ycell hb
  replace J5 : Hid (PtsAt w14 vb5 MS) := J5.out.below hb
  clear hb
  go_wp2_with fail
  refine Calls.mono (DC.out _ (HL.out.below HB.out)) ?_
  rintro e w15 ⟨rfl, hb⟩
  replace HB : Hid (Below w.heap.size w w15) := HB.out.trans (hb.mono HB.out.size)
  replace gcell := keepC gcell hb
  replace K1 : Hid (PtsAt w15 va1 MO) := K1.out.below hb
  replace K2 : Hid (PtsAt w15 va2 MP) := K2.out.below hb
  replace K3 : Hid (PtsAt w15 va3 MU) := K3.out.below hb
  replace K4 : Hid (PtsAt w15 va4 ML) := K4.out.below hb
  replace KX : Hid (ClsAt w15 xa GP) := KX.out.below hb
  replace xcell := keepC xcell hb
  replace K5 : Hid (PtsAt w15 va5 MS) := K5.out.below hb
  replace J1 : Hid (PtsAt w15 vb1 MO) := J1.out.below hb
  replace J2 : Hid (PtsAt w15 vb2 MP) := J2.out.below hb
  replace J3 : Hid (PtsAt w15 vb3 MU) := J3.out.below hb
  replace J4 : Hid (PtsAt w15 vb4 ML) := J4.out.below hb
  replace KY : Hid (ClsAt w15 ya GP) := KY.out.below hb
  replace ycell := keepC ycell hb
  replace J5 : Hid (PtsAt w15 vb5 MS) := J5.out.below hb
  clear hb
  go_wp2_with fail
  refine Calls.mono (RC.out _ (HL.out.below HB.out)) ?_
  rintro e w16 ⟨rfl, hb⟩
  replace HB : Hid (Below w.heap.size w w16) := HB.out.trans (hb.mono HB.out.size)
  replace gcell := keepC gcell hb
  replace K1 : Hid (PtsAt w16 va1 MO) := K1.out.below hb
  replace K2 : Hid (PtsAt w16 va2 MP) := K2.out.below hb
  replace K3 : Hid (PtsAt w16 va3 MU) := K3.out.below hb
  replace K4 : Hid (PtsAt w16 va4 ML) := K4.out.below hb
  replace KX : Hid (ClsAt w16 xa GP) := KX.out.below hb
  replace xcell := keepC xcell hb
  replace K5 : Hid (PtsAt w16 va5 MS) := K5.out.below hb
  replace J1 : Hid (PtsAt w16 vb1 MO) := J1.out.below hb
  replace J2 : Hid (PtsAt w16 vb2 MP) := J2.out.below hb
  replace J3 : Hid (PtsAt w16 vb3 MU) := J3.out.below hb
  replace J4 : Hid (PtsAt w16 vb4 ML) := J4.out.below hb
  replace KY : Hid (ClsAt w16 ya GP) := KY.out.below hb
  replace ycell := keepC ycell hb
  replace J5 : Hid (PtsAt w16 vb5 MS) := J5.out.below hb
  clear hb
  go_wp2_with fail
  refine Calls.mono (DM.out _ (HL.out.below HB.out)) ?_
  rintro e w17 ⟨rfl, hb⟩
  replace HB : Hid (Below w.heap.size w w17) := HB.out.trans (hb.mono HB.out.size)
  replace gcell := keepC gcell hb
  replace K1 : Hid (PtsAt w17 va1 MO) := K1.out.below hb
  replace K2 : Hid (PtsAt w17 va2 MP) := K2.out.below hb
  replace K3 : Hid (PtsAt w17 va3 MU) := K3.out.below hb
  replace K4 : Hid (PtsAt w17 va4 ML) := K4.out.below hb
  replace KX : Hid (ClsAt w17 xa GP) := KX.out.below hb
  replace xcell := keepC xcell hb
  replace K5 : Hid (PtsAt w17 va5 MS) := K5.out.below hb
  replace J1 : Hid (PtsAt w17 vb1 MO) := J1.out.below hb
  replace J2 : Hid (PtsAt w17 vb2 MP) := J2.out.below hb
  replace J3 : Hid (PtsAt w17 vb3 MU) := J3.out.below hb
  replace J4 : Hid (PtsAt w17 vb4 ML) := J4.out.below hb
  replace KY : Hid (ClsAt w17 ya GP) := KY.out.below hb
  replace ycell := keepC ycell hb
  replace J5 : Hid (PtsAt w17 vb5 MS) := J5.out.below hb
  clear hb
  go_wp2_with fail
  refine Calls.mono (QO.out va1 vb1 vc1 vd1 _ K1.out J1.out) ?_
  rintro e w18 ⟨rfl, hb⟩
  replace HB : Hid (Below w.heap.size w w18) := HB.out.trans (hb.mono HB.out.size)
  replace gcell := keepC gcell hb
  replace K1 : Hid (PtsAt w18 va1 MO) := K1.out.below hb
  replace K2 : Hid (PtsAt w18 va2 MP) := K2.out.below hb
  replace K3 : Hid (PtsAt w18 va3 MU) := K3.out.below hb
  replace K4 : Hid (PtsAt w18 va4 ML) := K4.out.below hb
  replace KX : Hid (ClsAt w18 xa GP) := KX.out.below hb
  replace xcell := keepC xcell hb
  replace K5 : Hid (PtsAt w18 va5 MS) := K5.out.below hb
  replace J1 : Hid (PtsAt w18 vb1 MO) := J1.out.below hb
  replace J2 : Hid (PtsAt w18 vb2 MP) := J2.out.below hb
  replace J3 : Hid (PtsAt w18 vb3 MU) := J3.out.below hb
  replace J4 : Hid (PtsAt w18 vb4 ML) := J4.out.below hb
  replace KY : Hid (ClsAt w18 ya GP) := KY.out.below hb
  replace ycell := keepC ycell hb
  replace J5 : Hid (PtsAt w18 vb5 MS) := J5.out.below hb
  clear hb
  go_wp2_with fail
  refine Calls.mono (QP.out va2 vb2 vc2 vd2 _ K2.out J2.out) ?_
  rintro e w19 ⟨rfl, hb⟩
  replace HB : Hid (Below w.heap.size w w19) := HB.out.trans (hb.mono HB.out.size)
  replace gcell := keepC gcell hb
  replace K1 : Hid (PtsAt w19 va1 MO) := K1.out.below hb
  replace K2 : Hid (PtsAt w19 va2 MP) := K2.out.below hb
  replace K3 : Hid (PtsAt w19 va3 MU) := K3.out.below hb
  replace K4 : Hid (PtsAt w19 va4 ML) := K4.out.below hb
  replace KX : Hid (ClsAt w19 xa GP) := KX.out.below hb
  replace xcell := keepC xcell hb
  replace K5 : Hid (PtsAt w19 va5 MS) := K5.out.below hb
  replace J1 : Hid (PtsAt w19 vb1 MO) := J1.out.below hb
  replace J2 : Hid (PtsAt w19 vb2 MP) := J2.out.below hb
  replace J3 : Hid (PtsAt w19 vb3 MU) := J3.out.below hb
  replace J4 : Hid (PtsAt w19 vb4 ML) := J4.out.below hb
  replace KY : Hid (ClsAt w19 ya GP) := KY.out.below hb
  replace ycell := keepC ycell hb
  replace J5 : Hid (PtsAt w19 vb5 MS) := J5.out.below hb
  clear hb
  go_wp2_with fail
  refine Calls.mono (QU.out va3 vb3 vc3 vd3 _ K3.out J3.out) ?_
  rintro e w20 ⟨rfl, hb⟩
  replace HB : Hid (Below w.heap.size w w20) := HB.out.trans (hb.mono HB.out.size)
  replace gcell := keepC gcell hb
  replace K1 : Hid (PtsAt w20 va1 MO) := K1.out.below hb
  replace K2 : Hid (PtsAt w20 va2 MP) := K2.out.below hb
  replace K3 : Hid (PtsAt w20 va3 MU) := K3.out.below hb
  replace K4 : Hid (PtsAt w20 va4 ML) := K4.out.below hb
  replace KX : Hid (ClsAt w20 xa GP) := KX.out.below hb
  replace xcell := keepC xcell hb
  replace K5 : Hid (PtsAt w20 va5 MS) := K5.out.below hb
  replace J1 : Hid (PtsAt w20 vb1 MO) := J1.out.below hb
  replace J2 : Hid (PtsAt w20 vb2 MP) := J2.out.below hb
  replace J3 : Hid (PtsAt w20 vb3 MU) := J3.out.below hb
  replace J4 : Hid (PtsAt w20 vb4 ML) := J4.out.below hb
  replace KY : Hid (ClsAt w20 ya GP) := KY.out.below hb
  replace ycell := keepC ycell hb
  replace J5 : Hid (PtsAt w20 vb5 MS) := J5.out.below hb
  clear hb
  go_wp2_with fail
  refine Calls.mono (QG'.out xa ya xc yc _ KX.out KY.out) ?_
  rintro e w21 ⟨rfl, hb⟩
  replace HB : Hid (Below w.heap.size w w21) := HB.out.trans (hb.mono HB.out.size)
  replace gcell := keepC gcell hb
  replace K1 : Hid (PtsAt w21 va1 MO) := K1.out.below hb
  replace K2 : Hid (PtsAt w21 va2 MP) := K2.out.below hb
  replace K3 : Hid (PtsAt w21 va3 MU) := K3.out.below hb
  replace K4 : Hid (PtsAt w21 va4 ML) := K4.out.below hb
  replace KX : Hid (ClsAt w21 xa GP) := KX.out.below hb
  replace xcell := keepC xcell hb
  replace K5 : Hid (PtsAt w21 va5 MS) := K5.out.below hb
  replace J1 : Hid (PtsAt w21 vb1 MO) := J1.out.below hb
  replace J2 : Hid (PtsAt w21 vb2 MP) := J2.out.below hb
  replace J3 : Hid (PtsAt w21 vb3 MU) := J3.out.below hb
  replace J4 : Hid (PtsAt w21 vb4 ML) := J4.out.below hb
  replace KY : Hid (ClsAt w21 ya GP) := KY.out.below hb
  replace ycell := keepC ycell hb
  replace J5 : Hid (PtsAt w21 vb5 MS) := J5.out.below hb
  clear hb
  go_wp2_with fail
  refine Calls.mono (QL.out va4 vb4 vc4 vd4 _ K4.out J4.out) ?_
  rintro e w22 ⟨rfl, hb⟩
  replace HB : Hid (Below w.heap.size w w22) := HB.out.trans (hb.mono HB.out.size)
  replace gcell := keepC gcell hb
  replace K1 : Hid (PtsAt w22 va1 MO) := K1.out.below hb
  replace K2 : Hid (PtsAt w22 va2 MP) := K2.out.below hb
  replace K3 : Hid (PtsAt w22 va3 MU) := K3.out.below hb
  replace K4 : Hid (PtsAt w22 va4 ML) := K4.out.below hb
  replace KX : Hid (ClsAt w22 xa GP) := KX.out.below hb
  replace xcell := keepC xcell hb
  replace K5 : Hid (PtsAt w22 va5 MS) := K5.out.below hb
  replace J1 : Hid (PtsAt w22 vb1 MO) := J1.out.below hb
  replace J2 : Hid (PtsAt w22 vb2 MP) := J2.out.below hb
  replace J3 : Hid (PtsAt w22 vb3 MU) := J3.out.below hb
  replace J4 : Hid (PtsAt w22 vb4 ML) := J4.out.below hb
  replace KY : Hid (ClsAt w22 ya GP) := KY.out.below hb
  replace ycell := keepC ycell hb
  replace J5 : Hid (PtsAt w22 vb5 MS) := J5.out.below hb
  clear hb
  go_wp2_with fail
  refine Calls.mono (QS.out va5 vb5 vc5 vd5 _ K5.out J5.out) ?_
  rintro e w23 ⟨rfl, hb⟩
  replace HB : Hid (Below w.heap.size w w23) := HB.out.trans (hb.mono HB.out.size)
  replace gcell := keepC gcell hb
  replace K1 : Hid (PtsAt w23 va1 MO) := K1.out.below hb
  replace K2 : Hid (PtsAt w23 va2 MP) := K2.out.below hb
  replace K3 : Hid (PtsAt w23 va3 MU) := K3.out.below hb
  replace K4 : Hid (PtsAt w23 va4 ML) := K4.out.below hb
  replace KX : Hid (ClsAt w23 xa GP) := KX.out.below hb
  replace xcell := keepC xcell hb
  replace K5 : Hid (PtsAt w23 va5 MS) := K5.out.below hb
  replace J1 : Hid (PtsAt w23 vb1 MO) := J1.out.below hb
  replace J2 : Hid (PtsAt w23 vb2 MP) := J2.out.below hb
  replace J3 : Hid (PtsAt w23 vb3 MU) := J3.out.below hb
  replace J4 : Hid (PtsAt w23 vb4 ML) := J4.out.below hb
  replace KY : Hid (ClsAt w23 ya GP) := KY.out.below hb
  replace ycell := keepC ycell hb
  replace J5 : Hid (PtsAt w23 vb5 MS) := J5.out.below hb
  clear hb
  go_wp2_with fail
  go_ret
  exact ⟨rfl, HB.out⟩
end Go.Proofs.Ytgjfmepbphfjoaa
