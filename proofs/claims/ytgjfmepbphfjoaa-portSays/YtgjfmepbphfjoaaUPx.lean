/-
  What is asked of port's functions where the caller turns blocks of its own.
-/
import Derived.Test.YtgjfmepbphfjoaaUPk
import Derived.Test.YtgjfmepbphfjoaaUBoOwBk
namespace Go.Proofs.Ytgjfmepbphfjoaa
open Go.RowKit Go.ChangeShapes Go.WideShapes
set_option linter.unusedVariables false

/-- Ports, graphs, that none of X belongs to. -/
def PtsSt (X : Nat → Prop) (w : World) (a : Option Addr) (L : List Pt) : Prop := ∀ w', OffX X w w' → PtsAt w' a L
theorem PtsSt.at {X : Nat → Prop} {w : World} {a : Option Addr} {L : List Pt} (h : PtsSt X w a L) : PtsAt w a L := h w (OffX.refl X w)
theorem PtsSt.off {X : Nat → Prop} {w w' : World} {a : Option Addr} {L : List Pt} (h : PtsSt X w a L) (ho : OffX X w w') : PtsSt X w' a L := fun w'' h2 => h w'' (ho.trans h2)
theorem PtsSt.grow {X Y : Nat → Prop} {w w1 : World} {a : Option Addr} {L : List Pt} (h : PtsSt X w a L) (ho : OffX X w w1) (hY : ∀ b, b < w.heap.size → Y b → X b) : PtsSt Y w1 a L := fun w' h2 => h w' (off_grow ho.size ho.block hY h2)
theorem pts_st0 {w : World} {a : Option Addr} {L : List Pt} (h : PtsAt w a L) : PtsSt (fun _ => False) w a L := fun w' ho => by
  have h2 : PtsAt { w' with os := w.os, tape := w.tape, output := w.output } a L := h.below ⟨rfl, rfl, rfl, ho.size, fun b hb => ho.block b hb id⟩
  exact h2
def OpenAnsX : Prop := ∀ (X : Nat → Prop) (a : Option Addr) (c : Nat) (L : List Pt) (Fr o t : Int) (w : World), (∀ b, X b → b < w.heap.size) → L.length ≤ 9223372036854775807 → BigP L → SlA a L.length c → PtsSt X w a L →
  Calls Try.prog 5 #[.slice a L.length c, .int .i64 Fr, .int .i64 o, .int .i64 t] w fun e w' => ∃ va vc, e = .returned (.tuple #[.slice va (resO L Fr o t).length vc, .int .i64 (openN L Fr o t), .int .i64 (openE L Fr o t)]) ∧ Below w.heap.size w w' ∧ SlA va (resO L Fr o t).length vc ∧ PtsSt X w' va (resO L Fr o t)
theorem OpenAnsX.zero (h : OpenAnsX) : OpenAns := fun a c L Fr o t w h1 h2 h3 h4 => by
  refine (h (fun _ => False) a c L Fr o t w (fun b hb => absurd hb id) h1 h2 h3 (pts_st0 h4)).mono ?_
  rintro e w' ⟨va, vc, rfl, hb, hs, hp⟩
  exact ⟨va, vc, rfl, hb, hs, hp.at⟩
def PassAnsX : Prop := ∀ (X : Nat → Prop) (a : Option Addr) (c : Nat) (L : List Pt) (Fr k o t to' th : Int) (w : World), (∀ b, X b → b < w.heap.size) → L.length ≤ 9223372036854775807 → BigP L → SlA a L.length c → PtsSt X w a L →
  Calls Try.prog 6 #[.slice a L.length c, .int .i64 Fr, .int .i64 k, .int .i64 o, .int .i64 t, .int .i64 to', .int .i64 th] w fun e w' => ∃ va vc, e = .returned (.tuple #[.slice va (resPass L Fr k o t to' th).length vc, .int .i64 (passE L Fr k o t to' th)]) ∧ Below w.heap.size w w' ∧ SlA va (resPass L Fr k o t to' th).length vc ∧ PtsSt X w' va (resPass L Fr k o t to' th)
theorem PassAnsX.zero (h : PassAnsX) : PassAns := fun a c L Fr k o t to' th w h1 h2 h3 h4 => by
  refine (h (fun _ => False) a c L Fr k o t to' th w (fun b hb => absurd hb id) h1 h2 h3 (pts_st0 h4)).mono ?_
  rintro e w' ⟨va, vc, rfl, hb, hs, hp⟩
  exact ⟨va, vc, rfl, hb, hs, hp.at⟩
def PushAnsX : Prop := ∀ (X : Nat → Prop) (a : Option Addr) (c : Nat) (L : List Pt) (Fr k o t : Int) (ga : Option Addr) (gc : Nat) (G : List Cl) (w : World), (∀ b, X b → b < w.heap.size) → L.length ≤ 9223372036854775807 → BigP L → SlA a L.length c → PtsSt X w a L → G.length ≤ 9223372036854775807 → BigC G → ClsAt w ga G →
  Calls Try.prog 7 #[.slice a L.length c, .int .i64 Fr, .int .i64 k, .int .i64 o, .int .i64 t, .agg #[.slice ga G.length gc]] w fun e w' => ∃ va vc, e = .returned (.tuple #[.slice va (resPush L Fr k o t G).length vc, .int .i64 (pushE L Fr k o t G)]) ∧ Below w.heap.size w w' ∧ SlA va (resPush L Fr k o t G).length vc ∧ PtsSt X w' va (resPush L Fr k o t G)
theorem PushAnsX.zero (h : PushAnsX) : PushAns := fun a c L Fr k o t ga gc G w h1 h2 h3 h4 hg1 hg2 hg3 => by
  refine (h (fun _ => False) a c L Fr k o t ga gc G w (fun b hb => absurd hb id) h1 h2 h3 (pts_st0 h4) hg1 hg2 hg3).mono ?_
  rintro e w' ⟨va, vc, rfl, hb, hs, hp⟩
  exact ⟨va, vc, rfl, hb, hs, hp.at⟩
def PullAnsX : Prop := ∀ (X : Nat → Prop) (a : Option Addr) (c : Nat) (L : List Pt) (Fr k o t : Int) (w : World), (∀ b, X b → b < w.heap.size) → L.length ≤ 9223372036854775807 → BigP L → SlA a L.length c → PtsSt X w a L →
  Calls Try.prog 8 #[.slice a L.length c, .int .i64 Fr, .int .i64 k, .int .i64 o, .int .i64 t] w fun e w' => ∃ va vc ga gc, e = .returned (.tuple #[.slice va (resPull L Fr k o t).length vc, .agg #[.slice ga (pullG L Fr k o t).length gc], .int .i64 (pullE L Fr k o t)]) ∧ Below w.heap.size w w' ∧ SlA va (resPull L Fr k o t).length vc ∧ PtsSt X w' va (resPull L Fr k o t) ∧ ClsSt X w' ga (pullG L Fr k o t)
theorem PullAnsX.zero (h : PullAnsX) : PullAns := fun a c L Fr k o t w h1 h2 h3 h4 => by
  refine (h (fun _ => False) a c L Fr k o t w (fun b hb => absurd hb id) h1 h2 h3 (pts_st0 h4)).mono ?_
  rintro e w' ⟨va, vc, ga, gc, rfl, hb, hs, hp, hg⟩
  exact ⟨va, vc, ga, gc, rfl, hb, hs, hp.at, hg.at⟩
def ShutAnsX : Prop := ∀ (X : Nat → Prop) (a : Option Addr) (c : Nat) (L : List Pt) (Fr k o t : Int) (w : World), (∀ b, X b → b < w.heap.size) → L.length ≤ 9223372036854775807 → BigP L → SlA a L.length c → PtsSt X w a L →
  Calls Try.prog 9 #[.slice a L.length c, .int .i64 Fr, .int .i64 k, .int .i64 o, .int .i64 t] w fun e w' => ∃ va vc, e = .returned (.tuple #[.slice va (resShut L Fr k o t).length vc, .int .i64 (heldPE L Fr k o t)]) ∧ Below w.heap.size w w' ∧ SlA va (resShut L Fr k o t).length vc ∧ PtsSt X w' va (resShut L Fr k o t)
theorem ShutAnsX.zero (h : ShutAnsX) : ShutAns := fun a c L Fr k o t w h1 h2 h3 h4 => by
  refine (h (fun _ => False) a c L Fr k o t w (fun b hb => absurd hb id) h1 h2 h3 (pts_st0 h4)).mono ?_
  rintro e w' ⟨va, vc, rfl, hb, hs, hp⟩
  exact ⟨va, vc, rfl, hb, hs, hp.at⟩
end Go.Proofs.Ytgjfmepbphfjoaa
