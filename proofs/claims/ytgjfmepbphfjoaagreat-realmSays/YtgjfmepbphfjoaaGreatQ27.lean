/-
  x
-/
import Derived.Test.YtgjfmepbphfjoaaGreatQ25
import Derived.Test.YtgjfmepbphfjoaaGreatQ26
import Derived.Maps.OwnOps
import Derived.Maps.Views
namespace Go.Proofs.YtgjfmepbphfjoaaGreat
set_option maxRecDepth 100000
set_option maxHeartbeats 4000000
set_option linter.unusedVariables false
open Go.RowKit Go.ChangeShapes Go.WideShapes
theorem zdV{w:World}{B t s n:Nat}{v:Value}{D:List Value}(h:w.ownsRow B t s v n D):∃ a c,v=.slice a n c/\∀ x:Addr,a=some x->∃ g,x=⟨g,0,none⟩:=by
 rcases h.2 with ⟨rfl,h0⟩ |⟨g,cap,A,rfl,_⟩
 ·exact⟨none,0,by rw[h0],fun x hx=>by cases hx⟩
 ·exact⟨some ⟨g,0,none⟩,cap,rfl,fun x hx=>by cases hx;exact⟨g,rfl⟩⟩
theorem zcd(a0 a1 a2 a3:Option Addr)(c0 c1 c2 c3:Nat)(R:Rl)(w:World)(hR:zaB R=0)(hL:zaS w ⟨a0,a1,a2,a3,c0,c1,c2,c3⟩ R) :
  Calls Tryz.prog 37 #[.agg #[.slice a0 R.s.length c0,.slice a1 R.hs.length c1,.slice a2 R.i.length c2,.slice a3 R.t.length c3]] w fun e w' => ∃ (v0:Value) (K:Nat->Value) (v1 v3:Value),e=.returned (.agg #[v0,v1,.slice a2 R.i.length c2,v3])/\Below w.heap.size w w' /\ zca (w.heap.size+1+1) R.s R.s.length K v0 w' /\ w'.ownsRow (w.heap.size+1+1) 39 2 v1 16 (hcells R.hs)/\w'.ownsRow (w.heap.size+1+1) 3 1 v3 R.t.length (R.t.map (Value.int .i64)):=by
 obtain⟨wf,c9,_,ht⟩:=zax hR;have sm:=wf.small;have D1:Hid (∀ W,zae W a0 R.s->_):=fun W hW=>zeL a0 c0 R.s W (by omega) (fun i hi=>by have:=zbi wf i hi;omega) hW;obtain⟨M,O,e8,_⟩:=hL.2.1 0 (by omega);dsimp only at e8;subst e8;have HL:Hid (zaS w ⟨a0,some ⟨M,O,none⟩,a2,a3,c0,c1,c2,c3⟩ R):=hL;have g6:Hid (∀ W,Below w.heap.size w W->∀ j u,(hcells R.hs)[j]?=some u->W.cell? ((⟨M,O,none⟩:Addr).add j)=some u):=fun W hW=>zod (hL.2.1.below hW);have g1:Hid (∀ W,Below w.heap.size w W->zaj W a3 R.t):=fun W hW=>hL.2.2.2.below hW;have g2:Hid ((hcells R.hs).length=16*2):=by show _=_;rw[zhk,c9]
 have g3:Hid (∀ u ∈ hcells R.hs,u.oneCell' = true):=zma _;obtain⟨i0,h4,h5,h6,h7⟩:=info_parts zgu;rw[c9];clear hL wf hR c9;obtain⟨J,d7⟩:∃ n,R.t.length=n:=⟨_,rfl⟩;have f8:Hid (R.t.length=J):=d7;rw[d7] at ht |-;clear d7;generalize hcells R.hs=a9 at *;generalize R.i.length=ni at *
 go_enter Tryz.func37,Tryz.ntmps37
 go_wp2_with fail
 refine yf (D1.out _ (HL.out.1.below (zai _ _ _))) ?_;rintro e F ⟨v0,K,rfl,hb,hO⟩;obtain⟨s0,T,rfl,_⟩:=hO.nds;have b8:Hid (Below w.heap.size w F):=(zai w _ _).trans (hb.mono (by simp;omega));have d9:Hid (zca (w.heap.size+1+1) R.s R.s.length K (.slice s0 R.s.length T) F):=(by simpa using hO:zca (w.heap.size+1+1) R.s R.s.length K (.slice s0 R.s.length T) F);have b6:Hid (F.heap[w.heap.size]?=some (.cells #[.slice a0 R.s.length c0,.slice (some ⟨M,O,none⟩) 16 c1,.slice a2 ni c2,.slice a3 J c3] 31 (0,0))):=(hb.block _ (by simp;omega)).trans (by simpa using ((zab (w.alloc (.cells #[.slice a0 R.s.length c0,.slice (some ⟨M,O,none⟩) 16 c1,.slice a2 ni c2,.slice a3 J c3] 31)) (.cells #[.slice none 0 0,.slice none 0 0,.slice none 0 0,.slice none 0 0] 31)).block w.heap.size (by simp)).trans (heap_alloc_new w _));have b7:Hid (F.heap[w.heap.size+1]?=some (.cells #[.slice none 0 0,.slice none 0 0,.slice none 0 0,.slice none 0 0] 31 (0,0))):=(hb.block _ (by simp)).trans (by simpa using heap_alloc_new (w.alloc (.cells #[.slice a0 R.s.length c0,.slice (some ⟨M,O,none⟩) 16 c1,.slice a2 ni c2,.slice a3 J c3] 31)) (.cells #[.slice none 0 0,.slice none 0 0,.slice none 0 0,.slice none 0 0] 31));clear hb hO D1;obtain⟨l0,l1,l2,l3,fl,ll⟩:=zaa b6.out;obtain⟨z0,z1,z2,z3,fz,lz⟩:=zaa b7.out;have g7:0+16<=maxLen:=by unfold maxLen;omega
 have g8:(0+16)*16<=140737488355328:=by omega
 have c7:Hid (Below w.heap.size w ((F.setCell ⟨w.heap.size,0,none⟩ (.slice s0 R.s.length T)).alloc (.cells #[] 39))):=(b8.out.setCell (yi _) _).trans ((zab _ _).mono (by simpa using b8.out.size));have e6:Hid (((F.setCell ⟨w.heap.size,0,none⟩ (.slice s0 R.s.length T)).alloc (.cells #[] 39)).ownsRow F.heap.size 39 2 (.slice (some ⟨F.heap.size,0,none⟩) 0 0) 0 []):=(by have:=zsw (F.setCell ⟨w.heap.size,0,none⟩ (.slice s0 R.s.length T));simpa using this:World.ownsRow _ _ _ _ _ _ _)
 go_wp2_with (at_builtin;refine wpList_append_own _ rfl (.tmp 7) (.tmp 9) 25 rfl F.heap.size 39 i0 (.agg #[.int .i64 0,.int .i64 0]) 2 16 Tryz.underlying25 h4 h5 h6 h7 rfl (by decide) (.slice (some ⟨F.heap.size,0,none⟩) 0 0) 0 [] rfl e6.out ⟨M,O,none⟩ 16 c1 a9 rfl g2.out ?c1 g3.out g7 g8 ?c5 ?_)
 case c1=>exact g6.out _ c7.out
 case c5=>simp
 intro v1 w2 a6 A _;have i2:w.heap.size+1<F.heap.size:=lz;have e9:w.heap.size≠F.heap.size:=by omega
 have h8:w.heap.size+1≠F.heap.size:=by omega
 have gb:∀ b,b<F.heap.size->b≠w.heap.size->w2.heap[b]?=F.heap[b]?:=fun b hb d6=>(A.block b (by simp;omega) (fun e=>by have e2:b=F.heap.size:=Option.some.inj e;omega)).trans (((zab _ _).block b (by simpa using hb)).trans (yo _ _ _ _ d6));have b9:Hid (Below w.heap.size w w2):=c7.out.grown A (by simp;omega) (fun kk U=>by cases U;exact b8.out.size);have V:Hid (w2.heap[w.heap.size]?=some (.cells #[.slice s0 R.s.length T,.slice (some ⟨M,O,none⟩) 16 c1,.slice a2 ni c2,.slice a3 J c3] 31 (0,0))):=(A.block _ (by simp;omega) (fun e=>e9 (Option.some.inj e))).trans (((zab _ _).block _ (by simpa using ll)).trans (zbB (i:=0) b6.out));have Z:Hid (w2.heap[w.heap.size+1]?=some (.cells #[.slice none 0 0,.slice none 0 0,.slice none 0 0,.slice none 0 0] 31 (0,0))):=(gb _ lz (by omega)).trans b7.out;have e0:Hid (zca (w.heap.size+1+1) R.s R.s.length K (.slice s0 R.s.length T) w2):=d9.out.other (fun b hb b4=>gb b b4 (by omega));have a4:Hid (w2.ownsRow F.heap.size 39 2 v1 16 a9):=(by first|exact a6|simpa using a6:World.ownsRow _ _ _ _ _ _ _);have h9:F.heap.size<w2.heap.size:=by have:=A.size;simp at this;omega
 obtain⟨I,k1,rfl,_⟩:=zdV a4.out;clear a6 A l0 l1 l2 l3 fl ll z0 z1 z2 z3 fz lz b6 b7 d9 c7 e6 gb;obtain⟨l0,l1,l2,l3,fl,ll⟩:=zaa V.out;obtain⟨z0,z1,z2,z3,fz,lz⟩:=zaa Z.out;have g9:0+J<=maxLen:=by unfold maxLen;omega
 have h3:(0+J)*8<=140737488355328:=by omega
 have c8:Hid (Below w.heap.size w ((w2.setCell ⟨w.heap.size,1,none⟩ (.slice I 16 k1)).alloc (.cells #[] 3))):=(b9.out.setCell (yi _) _).trans ((zab _ _).mono (by simpa using b9.out.size));have e7:Hid (((w2.setCell ⟨w.heap.size,1,none⟩ (.slice I 16 k1)).alloc (.cells #[] 3)).ownsRow w2.heap.size 3 1 (.slice (some ⟨w2.heap.size,0,none⟩) 0 0) 0 []):=(by have:=zsx (w2.setCell ⟨w.heap.size,1,none⟩ (.slice I 16 k1));simpa using this:World.ownsRow _ _ _ _ _ _ _)
 go_wp2_with (at_builtin;refine zcu rfl (.tmp 12) (.tmp 14) rfl w2.heap.size (.slice (some ⟨w2.heap.size,0,none⟩) 0 0) 0 [] rfl e7.out a3 J c3 R.t rfl f8.out (g1.out _ c8.out) g9 h3 ?d5 ?_)
 case d5=>simp
 intro v3 w3 a7 D _;have gb:∀ b,b<w2.heap.size->b≠w.heap.size->w3.heap[b]?=w2.heap[b]?:=fun b hb d6=>(D.block b (by simp;omega) (fun e=>by have e2:b=w2.heap.size:=Option.some.inj e;omega)).trans (((zab _ _).block b (by simpa using hb)).trans (yo _ _ _ _ d6));have f6:Hid (Below w.heap.size w w3):=c8.out.grown D (by simp;omega) (fun kk U=>by cases U;exact b9.out.size);have d8:Hid (w3.heap[w.heap.size]?=some (.cells #[.slice s0 R.s.length T,.slice I 16 k1,.slice a2 ni c2,.slice a3 J c3] 31 (0,0))):=(D.block _ (by simp;omega) (fun e=>by have e2:w.heap.size=w2.heap.size:=Option.some.inj e;omega)).trans (((zab _ _).block _ (by simpa using ll)).trans (zbB (i:=1) V.out));have b5:Hid (w3.heap[w.heap.size+1]?=some (.cells #[.slice none 0 0,.slice none 0 0,.slice none 0 0,.slice none 0 0] 31 (0,0))):=(gb _ lz (by omega)).trans Z.out;have f9:Hid (zca (w.heap.size+1+1) R.s R.s.length K (.slice s0 R.s.length T) w3):=e0.out.other (fun b hb b4=>gb b b4 (by omega));have c6:Hid (w3.ownsRow F.heap.size 39 2 (.slice I 16 k1) 16 a9):=zao a4.out (fun b U=>gb b (a4.out.lt b U).2 (by have:=(a4.out.lt b U).1;omega));have a8:Hid (w3.ownsRow w2.heap.size 3 1 v3 J (R.t.map (Value.int .i64))):=(by first|exact a7|simpa using a7:World.ownsRow _ _ _ _ _ _ _);have i1:w2.heap.size<w3.heap.size:=by have:=D.size;simp at this;omega
 obtain⟨t0,k3,rfl,_⟩:=zdV a8.out;clear a7 D l0 l1 l2 l3 fl ll z0 z1 z2 z3 fz lz V Z e0 c8 e7 gb a4;obtain⟨l0,l1,l2,l3,fl,ll⟩:=zaa d8.out;obtain⟨z0,z1,z2,z3,fz,lz⟩:=zaa b5.out
 go_wp2_with fail
 obtain⟨W9,a5⟩:∃ W9,W9=(((((w3.setCell ⟨w.heap.size,3,none⟩ (.slice t0 J k3)).setCell ⟨w.heap.size+1,0,none⟩ (.slice s0 R.s.length T)).setCell ⟨w.heap.size+1,1,none⟩ (.slice I 16 k1)).setCell ⟨w.heap.size+1,2,none⟩ (.slice a2 ni c2)).setCell ⟨w.heap.size+1,3,none⟩ (.slice t0 J k3)):=⟨_,rfl⟩;rw[<- a5];have gz:∀ b,b≠w.heap.size->b≠w.heap.size+1->W9.heap[b]?=w3.heap[b]?:=fun b h1 h2=>by rw[a5,yo _ _ _ _ h2,yo _ _ _ _ h2,yo _ _ _ _ h2,yo _ _ _ _ h2,yo _ _ _ _ h1]
 have f0:W9.heap[w.heap.size+1]?=some (.cells #[.slice s0 R.s.length T,.slice I 16 k1,.slice a2 ni c2,.slice t0 J k3] 31 (0,0)):=by
  rw[a5];exact zbl ((yo _ _ _ _ (by show w.heap.size+1≠w.heap.size;omega)).trans b5.out)
 have f7:Hid (Below w.heap.size w W9):=(by rw[a5];exact((((f6.out.setCell (yi _) _).setCell (by simp) _).setCell (by simp) _).setCell (by simp) _).setCell (by simp) _:Below w.heap.size w W9);have g0:Hid (zca (w.heap.size+1+1) R.s R.s.length K (.slice s0 R.s.length T) W9):=f9.out.other (fun b hb b4=>gz b (by omega) (by omega));have g5:Hid (W9.ownsRow (w.heap.size+1+1) 39 2 (.slice I 16 k1) 16 a9):=zau (zao c6.out (fun b U=>gz b (by have:=(c6.out.lt b U).1;omega) (by have:=(c6.out.lt b U).1;omega))) (by omega);have g4:Hid (W9.ownsRow (w.heap.size+1+1) 3 1 (.slice t0 J k3) J (R.t.map (Value.int .i64))):=zau (zao a8.out (fun b U=>gz b (by have:=(a8.out.lt b U).1;omega) (by have:=(a8.out.lt b U).1;omega))) (by omega);clear l0 l1 l2 l3 fl ll z0 z1 z2 z3 fz lz gz a5;obtain⟨z0,z1,z2,z3,fz,lz⟩:=zaa f0;exact yq (v:=.agg #[.slice s0 R.s.length T,.slice I 16 k1,.slice a2 ni c2,.slice t0 J k3]) (by simp[results,Tryz.results37,go_sem,z0,z1,z2,z3]) rfl ⟨_,K,_,_,rfl,f7.out,g0.out,g5.out,g4.out⟩
theorem zct(x:Int)(w:World)(h:0<=x/\x<=15):Calls Tryz.prog 36 #[.int .i64 x,.int .i64 0,.int .i64 15] w fun e w' => e=.returned (.bool true)/\w' = w:=by
 have:=zbR x 0 15 w
 rwa [decide_eq_true h] at this
theorem zlt(x:Int)(w:World)(h:¬ (0<=x/\x<=15)):Calls Tryz.prog 36 #[.int .i64 x,.int .i64 0,.int .i64 15] w fun e w' => e=.returned (.bool false)/\w' = w:=by
 have:=zbR x 0 15 w
 rwa [decide_eq_false h] at this
theorem zeE{B:Nat}{w:World}{v:Value}{L:List (Int × Int)}(h:w.ownsRow B 39 2 v L.length (hcells L)):∃ a c,v=.slice a L.length c/\zam w a L:=by
 have A:=fun g hg=>h.cells (g:=g) hg;rcases h.2 with ⟨rfl,h0⟩ |⟨g,cap,J,rfl,_⟩
 ·exact⟨none,0,by rw[h0],fun i D=>by omega⟩
 ·refine⟨some ⟨g,0,none⟩,cap,rfl,fun i D=>⟨g,0,rfl,?_⟩⟩;obtain⟨h1,M⟩:=zbt L i D;have F:=A g rfl _ _ h1;have I:=A g rfl _ _ M;rw[Addr.add_lit,yv] at F I;rw[yv];exact⟨F,I⟩
theorem zrT(a0 a1 a2 a3:Option Addr)(c0 c1 c2 c3:Nat)(R:Rl)(xk F xr xs xn:Int)(w:World)(ha:¬ isH F) :
  Calls Tryz.prog 16 #[.agg #[.slice a0 R.s.length c0,.slice a1 R.hs.length c1,.slice a2 R.i.length c2,.slice a3 R.t.length c3],.agg #[.int .i64 xk,.int .i64 F,.int .i64 xr,.int .i64 xs,.int .i64 xn]] w fun e w' => e=.returned (.tuple #[.agg #[.slice none 0 0,.slice none 0 0,.slice none 0 0,.slice none 0 0],.int .i64 0,.int .i64 4])/\Below w.heap.size w w' := by
 have DI:Hid (∀ W,_):=fun W=>zlt F W ha
 go_enter Tryz.func16,Tryz.ntmps16
 go_wp2_with fail
 refine yf (DI.out _) ?_;rintro e w' ⟨rfl,hw⟩;have U:=hw.symm;clear hw;subst U
 go_wp2_with fail
 refine yf (zbk 4 _) ?_;rintro e V ⟨rfl,T⟩;have M:Hid (Below w.heap.size w V):=((zai w _ _).trans ((zab _ _).mono (by first|(simp;done)|(simp;omega)))).trans (T.mono (by first|(simp;done)|(simp;omega)));have I:V.heap[w.heap.size+1+1]?=some (.cells #[.slice none 0 0,.slice none 0 0,.slice none 0 0,.slice none 0 0] 31 (0,0)):=(T.block _ (by simp)).trans (by simpa using heap_alloc_new ((w.alloc (.cells #[.slice a0 R.s.length c0,.slice a1 R.hs.length c1,.slice a2 R.i.length c2,.slice a3 R.t.length c3] 31)).alloc (.cells #[.int .i64 xk,.int .i64 F,.int .i64 xr,.int .i64 xs,.int .i64 xn] 41)) (.cells #[.slice none 0 0,.slice none 0 0,.slice none 0 0,.slice none 0 0] 31));obtain⟨Z,z1,z2,z3,fz,lz⟩:=zaa I;clear T
 go_wp2_with fail
 obtain⟨D,A⟩:∃ D,D=((((V.setCell ⟨w.heap.size+1+1,0,none⟩ (.slice none 0 0)).setCell ⟨w.heap.size+1+1,1,none⟩ (.slice none 0 0)).setCell ⟨w.heap.size+1+1,2,none⟩ (.slice none 0 0)).setCell ⟨w.heap.size+1+1,3,none⟩ (.slice none 0 0)):=⟨_,rfl⟩;rw[<- A]
 have J:D.heap[w.heap.size+1+1]?=some (.cells #[.slice none 0 0,.slice none 0 0,.slice none 0 0,.slice none 0 0] 31 (0,0)):=by
  rw[A];exact zbl I
 have O:Hid (Below w.heap.size w D):=(by rw[A];exact(((M.out.setCell (by show w.heap.size<=w.heap.size+1+1;omega) _).setCell (by show w.heap.size<=w.heap.size+1+1;omega) _).setCell (by show w.heap.size<=w.heap.size+1+1;omega) _).setCell (by show w.heap.size<=w.heap.size+1+1;omega) _:Below w.heap.size w D);clear Z z1 z2 z3 fz lz A I;obtain⟨Z,z1,z2,z3,fz,lz⟩:=zaa J;exact yq (v:=.tuple #[.agg #[.slice none 0 0,.slice none 0 0,.slice none 0 0,.slice none 0 0],.int .i64 0,.int .i64 4]) (by simp[results,Tryz.results16,go_sem,Z,z1,z2,z3]) rfl ⟨rfl,O.out⟩
structure zbx (w:World) (ab:Nat) (R:Rl) (xk xq xr xs xn h1 h2:Int) (s0:Option Addr) (k0:Nat) (K:Nat->Value) (g k1:Nat) (a2:Option Addr) (c2:Nat) (t0:Option Addr) (k3:Nat) (V:World):Prop where
 bel:Below w.heap.size w V
 r:V.heap[w.heap.size]?=some (.cells #[.slice s0 R.s.length k0,.slice (some ⟨g,0,none⟩) 16 k1,.slice a2 R.i.length c2,.slice t0 R.t.length k3] 31 (0,0))
 x:V.heap[w.heap.size+1]?=some (.cells #[.int .i64 xk,.int .i64 xq,.int .i64 xr,.int .i64 xs,.int .i64 xn] 41 (0,0))
 z:V.heap[w.heap.size+1+1]?=some (.cells #[.slice none 0 0,.slice none 0 0,.slice none 0 0,.slice none 0 0] 31 (0,0))
 a:V.heap[ab]?=some (.cells #[.int .i64 h1,.int .i64 h2] 39 (0,0))
 own:zca (w.heap.size+5) R.s R.s.length K (.slice s0 R.s.length k0) V
 hs:V.ownsRow (w.heap.size+5) 39 2 (.slice (some ⟨g,0,none⟩) 16 k1) 16 (hcells R.hs)
 ts:V.ownsRow (w.heap.size+5) 3 1 (.slice t0 R.t.length k3) R.t.length (R.t.map (Value.int .i64))
 i:zaY V a2 R.i
theorem zbx.below{w:World}{M:Nat}{R:Rl}{xk xq xr xs xn h1 O:Int}{s0:Option Addr}{T:Nat}{K:Nat->Value}{g U:Nat}{a2:Option Addr}{c2:Nat}{t0:Option Addr}{Z:Nat}{V J:World}(I:zbx w M R xk xq xr xs xn h1 O s0 T K g U a2 c2 t0 Z V)(A:Below V.heap.size V J):zbx w M R xk xq xr xs xn h1 O s0 T K g U a2 c2 t0 Z J :=
 ⟨I.bel.trans (A.mono I.bel.size),zaU I.r A,zaU I.x A,zaU I.z A,zaU I.a A,I.own.other (fun b _ F=>A.block b F),zao I.hs (fun b D=>A.block b (I.hs.lt b D).2),zao I.ts (fun b D=>A.block b (I.ts.lt b D).2),I.i.below A⟩
theorem zbx.nds{w:World}{A:Nat}{R:Rl}{O U Z xs T h1 D:Int}{s0:Option Addr}{F:Nat}{K:Nat->Value}{g J:Nat}{a2:Option Addr}{c2:Nat}{t0:Option Addr}{M:Nat}{V:World}(I:zbx w A R O U Z xs T h1 D s0 F K g J a2 c2 t0 M V):zae V s0 R.s:=by
 obtain⟨a,c,e,h⟩:=I.own.nds;cases e;exact h
theorem zbx.rl{w:World}{O:Nat}{R:Rl}{xk xq xr xs xn h1 D:Int}{s0:Option Addr}{k0:Nat}{K:Nat->Value}{g J:Nat}{a2:Option Addr}{c2:Nat}{t0:Option Addr}{M:Nat}{V:World}(I:zbx w O R xk xq xr xs xn h1 D s0 k0 K g J a2 c2 t0 M V)(A:R.hs.length=16){F:Option Addr}{U:Nat}{T:List Nd}(Z:zae V F T):zaS V ⟨F,some ⟨g,0,none⟩,a2,t0,U,J,c2,M⟩ ⟨T,R.hs,R.i,R.t⟩:=by
 have hh:=I.hs;rw[<- A] at hh;obtain⟨b,c,e,h⟩:=zeE hh;cases e;obtain⟨b,c,e,D⟩:=zcp I.ts;cases e;exact⟨Z,h,I.i,D⟩
theorem sl4{V:World}{b t:Nat}{f}{F I J M:Option Addr}{n0 w A D d0 d1 d2 d3:Nat}(h:V.heap[b]?=some (.cells #[.slice F n0 d0,.slice I w d1,.slice J A d2,.slice M D d3] t f)):SlB V b:=zlA h ⟨_,_,_,rfl⟩ ⟨_,_,_,rfl⟩ ⟨_,_,_,rfl⟩ ⟨_,_,_,rfl⟩
theorem zgm(S:List Nd)(a:Int):∀ (f:Nat) (x:Int),zbs S zah (zcF a) f x false=decide (a ∈ zaT S f x)
 | 0,_=>by simp[zbs,zaT]
 | f+1,x=>by
  by_cases hx:zeY S.length x=true
  ·have e:zaT S (f+1) x=x :: zaT S f (zah (nd S x.toNat)):=by rw[zaT,yd hx]
   rw[e,zbs,yd hx];simp only[zcF];by_cases h:x=a
   ·simp[h]
   ·have w:¬ a=x:=fun e=>h e.symm;simp only[h,decide_false,Bool.not_false,if_true,List.mem_cons,w,false_or];exact zgm S a f _
  ·have e:zaT S (f+1) x=[]:=by rw[zaT,ya hx]
   rw[e,zbs,ya hx];simp
theorem zrF{S:List Nd}{w ch:Nat}(hpa:w<S.length):decide ((ch:Int) ∈ zbj S w)=(decide ((w:Int)=ch) || zbm S w ch):=by
 unfold zbj zbm;rw[yd (zcZ.2 hpa),yg,zgm];by_cases h:(w:Int)=ch
 ·simp[h]
 ·have A:¬ (ch:Int)=w:=fun e=>h e.symm;simp[h,A]
theorem znM{S:List Nd}{w ch:Nat}(hpa:w<S.length):zef S ch w=(decide ((nd S ch).h = -1) && !decide ((ch:Int) ∈ zbj S w)):=by
 rw[zrF hpa];unfold zef
 cases decide ((w:Int)=ch) <;> cases zbm S w ch <;> simp
def zgY(next c:Int)(ks:List Int):List Int:=ks.flatMap fun k=>if k=next then [c,k] else [k]
theorem zoj(next c k:Int)(l:List Int):zgY next c (l++[k])=zgY next c l++(if k=next then [c,k] else [k]):=by
 unfold zgY;rw[List.flatMap_append];simp
theorem zgv{next c:Int}:∀ {l:List Int},next ∉ l->zgY next c l=l
 | [],_=>rfl
 | k :: l,h=>by
  have h1:¬ k=next:=fun e=>h (by simp[e]);have w:=zgv (next:=next) (c:=c) (l:=l) (fun A=>h (List.mem_cons_of_mem _ A));unfold zgY at w |-;rw[List.flatMap_cons,ya h1,w];rfl
theorem zoi{next c:Int}:∀ {l:List Int} {i:Nat},l.Nodup->i<l.length->l.getD i 0=next->zgY next c l=ins l i c
 | [],_,_,h,_=>by simp at h
 | k :: l,0,hn,_,h=>by
  have e:k=next:=by simpa using h
  subst e;have:=zgv (next:=k) (c:=c) (List.nodup_cons.1 hn).1;unfold zgY at this |-;rw[List.flatMap_cons,yd rfl,this];simp[ins]
 | k :: l,i+1,hn,A,h=>by
  have hl:l.getD i 0=next:=by simpa using h
  have w:i<l.length:=by simpa using A
  have F:next ∈ l:=by rw[<- hl,zaf l 0 w];exact List.getElem_mem _
  have D:¬ k=next:=fun e=>(List.nodup_cons.1 hn).1 (by rw[e];exact F);have:=zoi (c:=c) (List.nodup_cons.1 hn).2 w hl;unfold zgY at this |-;rw[List.flatMap_cons,ya D,this];simp[ins]
theorem zrG(l:List Int)(c:Int):ins l l.length c=l++[c]:=by simp[ins]
def zgB(S:List Nd)(ch:Nat):List Nd:=if (nd S ch).p = -1 then S else S.set (nd S ch).p.toNat ⟨(nd S (nd S ch).p.toNat).u,(nd S (nd S ch).p.toNat).n,(nd S (nd S ch).p.toNat).t,(nd S (nd S ch).p.toNat).m,(nd S (nd S ch).p.toNat).p,woF ch (nd S (nd S ch).p.toNat).ks,(nd S (nd S ch).p.toNat).h,(nd S (nd S ch).p.toNat).c⟩
theorem zcU(S:List Nd)(ch:Nat):(zgB S ch).length=S.length:=by
 unfold zgB
 split <;> simp
theorem zid{S:List Nd}{ch:Nat}(A:(nd S ch).p = -1\/∃ w:Nat,w<S.length/\w≠ch/\(nd S ch).p=w){j:Nat}(I:j<S.length) :
  nd (zgB S ch) j=⟨(nd (leaveG S ch) j).u,(nd (leaveG S ch) j).n,(nd (leaveG S ch) j).t,(nd (leaveG S ch) j).m,(nd S j).p,(nd (leaveG S ch) j).ks,(nd (leaveG S ch) j).h,(nd (leaveG S ch) j).c⟩:=by
 unfold zgB leaveG;rcases A with h |⟨w,h1,D,F⟩
 ·rw[yd h,yd h]
 ·have hn:¬ (nd S ch).p = -1:=by omega
  rw[ya hn,ya hn,F,yg,zcS S w ch j I,zay S w j _ h1];unfold zdJ;by_cases e:j=ch
  ·subst e;rw[ya (fun e=>D e.symm),yd rfl]
  ·by_cases e2:j=w
   ·subst e2;rw[yd rfl,ya e,yd rfl];rfl
   ·rw[ya e2,ya e,ya e2]
def zcv(S:List Nd)(w ch:Nat):List Nd:=(zgB S ch).set ch ⟨(nd (zgB S ch) ch).u,(nd (zgB S ch) ch).n,(nd (zgB S ch) ch).t,(nd (zgB S ch) ch).m,(w:Int),(nd (zgB S ch) ch).ks,(nd (zgB S ch) ch).h,(nd (zgB S ch) ch).c⟩
theorem zda(S:List Nd)(w ch:Nat):(zcv S w ch).length=S.length:=by
 unfold zcv;rw[List.length_set,zcU]
theorem zlj{S:List Nd}{w ch:Nat}(D:(nd S ch).p = -1\/∃ F:Nat,F<S.length/\F≠ch/\(nd S ch).p=F)(hpa:w<S.length)(hch:ch<S.length)(A:w≠ch):nd (zcv S w ch) w=nd (zgB S ch) w/\(nd (zcv S w ch) w).ks=(nd (leaveG S ch) w).ks:=by
 have e:nd (zcv S w ch) w=nd (zgB S ch) w:=by
  unfold zcv;rw[zay _ ch w _ (by rw[zcU];exact hch),ya A]
 exact⟨e,by rw[e,zid D hpa]⟩
theorem zlP{S:List Nd}{w ch at' : Nat}(A:(nd S ch).p = -1\/∃ I:Nat,I<S.length/\I≠ch/\(nd S ch).p=I)(hpa:w<S.length)(hch:ch<S.length)(D:w≠ch) :
  (zcv S w ch).set w ⟨(nd (zcv S w ch) w).u,(nd (zcv S w ch) w).n,(nd (zcv S w ch) w).t,(nd (zcv S w ch) w).m,(nd (zcv S w ch) w).p,ins (nd (leaveG S ch) w).ks at' ch,(nd (zcv S w ch) w).h,(nd (zcv S w ch) w).c⟩=zaQ (leaveG S ch) w ch at' := by
 have hl:=zaF S ch;refine List.ext_getElem (by rw[List.length_set,zda,zaE,hl]) (fun i h1 J=>?_);have F:i<S.length:=by rw[List.length_set,zda] at h1;exact h1
 have e1:=zdt (leaveG S ch) w ch at' i (by rw[hl];exact F);rw[zaJ (by rw[zaE,hl];exact F)] at e1;have e2:=zay (zcv S w ch) w i ⟨(nd (zcv S w ch) w).u,(nd (zcv S w ch) w).n,(nd (zcv S w ch) w).t,(nd (zcv S w ch) w).m,(nd (zcv S w ch) w).p,ins (nd (leaveG S ch) w).ks at' ch,(nd (zcv S w ch) w).h,(nd (zcv S w ch) w).c⟩ (by rw[zda];exact hpa);rw[zaJ h1] at e2;rw[e1,e2];unfold zee;by_cases e:i=w
 ·subst e;rw[yd rfl,ya D,yd rfl,(zlj A hpa hch D).1,zid A hpa,zeG S hpa,ya D]
 ·rw[ya e];by_cases e3:i=ch
  ·subst e3;rw[yd rfl];unfold zcv;rw[zay _ i i _ (by rw[zcU];exact hch),yd rfl,zid A hch]
  ·rw[ya e3,ya e];unfold zcv;rw[zay _ ch i _ (by rw[zcU];exact hch),ya e3,zid A F];have:=zeG S (ch:=ch) (j:=i) F;rw[ya e3] at this;rw[<- this]
theorem zmg(E:Int)(w:World):Calls Tryz.prog 93 #[.int .i64 E] w fun e w' => e=.returned (.tuple #[.agg #[.slice none 0 0],.int .i64 E])/\Below w.heap.size w w' := by
 go_enter Tryz.func93,Tryz.ntmps93
 go_wp2
 refine yq (v:=.tuple #[.agg #[.slice none 0 0],.int .i64 E]) (by simp[results,Tryz.results93,go_sem]) rfl ⟨rfl,?_⟩
 first
  | exact zab _ _
  | exact(zab _ _).setCell (by simp) _
  | exact((zab _ _).setCell (by simp) _).drew
theorem zdM{w A:World}{a:Option Addr}{n c:Nat}{P I C F:Int}(D:Below (w.heap.size+1+1+1+1) ((((w.alloc (.cells #[.slice a n c] 24)).alloc (.cells #[.int .i64 P,.int .i64 I] 39)).alloc (.cells #[.int .i64 C,.int .i64 F] 39)).alloc (.cells #[.slice none 0 0] 24)) A) :
  (A.cell? ⟨w.heap.size,0,none⟩=some (.slice a n c)/\A.cell? ⟨w.heap.size+1,0,none⟩=some (.int .i64 P)/\A.cell? ⟨w.heap.size+1+1,0,none⟩=some (.int .i64 C)/\A.cell? ⟨w.heap.size+1+1+1,0,none⟩=some (.slice none 0 0))/\((∀ o,A.frozen? ⟨w.heap.size,o,none⟩=false)/\∀ o,A.frozen? ⟨w.heap.size+1+1+1,o,none⟩=false)/\w.heap.size+4<=A.heap.size/\Below w.heap.size w A:=by
 have hs:=D.size;simp only[yk] at hs;refine⟨⟨?_,?_,?_,?_⟩,⟨fun o=>?_,fun o=>?_⟩,by omega,(zaq _ _ _ _ _).trans (D.mono (by omega))⟩
 all_goals first|exact(D.cell (by first|(simp;done)|(simp;omega))).trans (by go_simp)|exact(D.frozen (by first|(simp;done)|(simp;omega))).trans (by go_simp)
def P6:List Nd:=S5.set 3 (zbI (nd S5 3) 0 false)
def P7:List Nd:=P6.set 4 (zbq (nd P6 4) 90)
def P8:List Nd:=zaQ (leaveG P7 4) 3 4 0
def VP(X:World)(A w g:Nat):Prop :=
 X.cell? ⟨A,0,none⟩=some (.slice (some ⟨g,0,none⟩) 6 6)/\(∀ o,X.frozen? ⟨A,o,none⟩=false)/\X.cell? ⟨w,0,none⟩=some (.int .i64 0)/\X.cell? ⟨w,1,none⟩=some (.int .i64 1)/\X.cell? ⟨w,2,none⟩=some (.int .i64 1)/\X.cell? ⟨w,3,none⟩=some (.int .i64 1)
def VH(X:World)(b:Nat)(k:Int):Prop:=X.cell? ⟨b,0,none⟩=some (.int .i64 k)/\X.cell? ⟨b,1,none⟩=some (.int .i64 1)
theorem VP.below{X Y:World}{A D g:Nat}(h:VP X A D g)(w:Below X.heap.size X Y):VP Y A D g :=
 ⟨zac h.1 w,fun o=>(w.frozen (p:=⟨A,o,none⟩) (by have:=ye _ _ h.1;exact this)).trans (h.2.1 o),zac h.2.2.1 w,zac h.2.2.2.1 w,zac h.2.2.2.2.1 w,zac h.2.2.2.2.2 w⟩
theorem VH.below{X Y:World}{b:Nat}{k:Int}(h:VH X b k)(w:Below X.heap.size X Y):VH Y b k:=⟨zac h.1 w,zac h.2 w⟩
theorem zex{X:World}{b A o D:Nat}{v F:Value}(h:X.cell? ⟨b,o,none⟩=some v)(w:b≠A):(X.setCell ⟨A,D,none⟩ F).cell? ⟨b,o,none⟩=some v:=(yw (yo _ _ _ _ w)).trans h
theorem VH.set{X:World}{b A o:Nat}{k:Int}{v:Value}(h:VH X b k)(w:b≠A):VH (X.setCell ⟨A,o,none⟩ v) b k:=⟨zex h.1 w,zex h.2 w⟩
theorem VP.set{X:World}{A D g F:Nat}(h:VP X A D g)(w:D≠A):VP (X.setCell ⟨A,0,none⟩ (.slice (some ⟨F,0,none⟩) 6 6)) A D F :=
 ⟨World.cell?_setCell_same _ _ _ h.1,fun o=>by rw[World.frozen?_setCell];exact h.2.1 o,zex h.2.2.1 w,zex h.2.2.2.1 w,zex h.2.2.2.2.1 w,zex h.2.2.2.2.2 w⟩
theorem VH.new(X:World)(k:Int):VH (X.alloc (.cells #[.int .i64 k,.int .i64 1] 39)) X.heap.size k:=⟨zad X _ _ 0 rfl,zad X _ _ 1 rfl⟩
theorem zmW{S:List Nd}(h:WF S){H:Nat}{s D:Slt}(hs:s ∈ zaz S H)(A:D ∈ zaz S H){c:Int}(F:c ∈ s.gv)(w:c ∈ D.gv):s=D:=by
 obtain⟨r,_,_,_,_,e1,_,_,_,_,_,_,I⟩:=zbe h hs;obtain⟨M,_,_,_,_,e2,_,_,_,_,_,_,J⟩:=zbe h A;have:r=M:=by omega
 subst this;exact zjv I J F w
theorem zjW{S:List Nd}(h:WF S){k:Nat}(Z:k<S.length){i:Nat}(D:i<(zaz S k).length){c:Int}(w:c ∈ (slt (zaz S k) i).gv) :
  ∃ n:Nat,c=n/\n<S.length/\(nd S n).u=true/\(nd S n).p=k/\toF S n=(slt (zaz S k) i).pl/\zas S n (nd S n).n=0:=by
 have J:∀ {j},j<(zaz S k).length->slt (zaz S k) j ∈ zaz S k:=fun F=>by rw[zbN F];exact List.getElem_mem F
 obtain⟨_,_,_,_,_,_,_,_,_,_,_,r6,_⟩:=zbe h (J D);have e:=r6.resolve_left (fun e=>by rw[e] at w;cases w);have A:=w;rw[e] at A;obtain⟨n,rfl,hn,U,T,_⟩:=h.kid Z (zck.1 A).1;refine⟨n,rfl,hn,U,T,?_,znL h (zhl hn U rfl h)⟩;unfold toF;have V:zcG S n=zaz S k:=by unfold zcG;rw[T,ya (by omega),yg]
 rw[V];have M:=zcT h (H:=k);refine zlB D w (fun j F I=>?_);have e2:=zmW h (J (show j<(zaz S k).length by omega)) (J D) I w;have:=List.nodup_iff_pairwise_ne.1 M;rw[List.pairwise_iff_getElem] at this;have O:=this j i (by rw[List.length_map];omega) (by rw[List.length_map];omega) F;rw[List.getElem_map,List.getElem_map,<- zbN (by omega),<- zbN D,e2] at O;exact O rfl
theorem zqQ(w:World):(zeroValue 4).run Tryz.prog w=.ok (.bool false) w:=by kernel_rfl
def zaA(w:World)(b n:Nat)(f:Int->Bool):Prop :=
 ∃ D:DataW Unit,w.ownsMap Tryz.prog 3 (plainElem Tryz.prog 4) b n D/\Maps.IsMap D/\∀ k:Int,(Lit.int .i64 k).wf=true->D.atKey (.int .i64 k) (.lit (.bool false))=.lit (.bool (f k))
theorem zaA.made(w:World):zaA (w.alloc (.map #[] 0)) w.heap.size 0 (fun _=>false) :=
 ⟨.map [],World.ownsMap_made w _ _ _,Maps.isMap_empty,fun _ _=>rfl⟩
theorem zaA.lt{w:World}{b n:Nat}{f:Int->Bool}(h:zaA w b n f):b<w.heap.size:=let ⟨_,h1,_⟩:=h;h1.lt
theorem zaA.kept{w w' : World}{b n:Nat}{f:Int->Bool}(h:zaA w b n f)(e:w'.heap[b]?=w.heap[b]?):zaA w' b n f:=by
 obtain⟨D,⟨A,clock,M,F,hs,J⟩,I⟩:=h;exact⟨D,⟨A,clock,e.trans M,F,hs,J⟩,I⟩
theorem zfr{P:Program}{e:TypeId}(w:P.underlying e=some .bool){v:Value}{z:DataW Unit × List MemPlace}(h:plainElem P e v=some z):∃ x,v=.bool x/\z=(.lit (.bool x),[]):=by
 unfold plainElem at h;rw[w] at h
 cases v <;> simp at h
 exact⟨_,rfl,h.symm⟩
theorem zaA.look{w:World}{b n:Nat}{f:Int->Bool}(h:zaA w b n f){t:TypeId}(J:Tryz.prog.underlying t=some (.map 3 4)){k:Int}(F:(Lit.int .i64 k).wf=true) :
  (Instr.lookup t (.map (some b)) (.int .i64 k) false).run Tryz.prog w=.ok (.bool (f k)) w:=by
 obtain⟨D,h1,_,I⟩:=h;obtain⟨v,ps,A,M⟩:=h1.lookup (Maps.int_keyed Tryz.underlying3) J (zqQ w) (plainElem_bool Tryz.underlying4 false) (Maps.keyOf_int_mk Tryz.underlying3 F);obtain⟨x,rfl,e⟩:=zfr Tryz.underlying4 M;rw[I k F] at e;cases e;exact A
theorem zaA.put{w:World}{b n:Nat}{f:Int->Bool}(h:zaA w b n f){t:TypeId}(U:Tryz.prog.underlying t=some (.map 3 4))(hn:n<maxLen){k:Int}(T:(Lit.int .i64 k).wf=true)(v:Bool) :
  ∃ w',(Instr.mapUpdate t (.map (some b)) (.int .i64 k) (.bool v)).run Tryz.prog w=.ok () w' /\ zaA w' b (n+1) (fun j=>if j=k then v else f j)/\w.grownBy w' (some b):=by
 obtain⟨D,h1,F,I⟩:=h;obtain⟨w', A,J,M⟩:=h1.update (Maps.int_keyed Tryz.underlying3) U hn (Maps.keyOf_int_mk Tryz.underlying3 T) (plainElem_bool Tryz.underlying4 v);refine⟨w', A,⟨_,J,F.put _ _,fun j O=>?_⟩,M⟩;by_cases e:j=k
 ·subst e;simp only[if_true];exact Maps.atKey_put_same (k:=.int .i64 j) F (show WideAt.IsKeyLit (.int .i64 j) from trivial) _ _
 ·simp only[ya e];rw[Maps.atKey_put_other (by intro e2;cases e2;exact e rfl)];exact I j O
def zcq(S:List Nd)(x:Int):Bool:=decide ((nd S x.toNat).h = -1)
def zdU(S:List Nd)(k:Nat):List Int:=flt (zcq S) (zbj S k)
theorem zop{S:List Nd}{k:Nat}(w:k<S.length):zaT S (S.length+1) (k:Int)=zbj S k:=by
 rw[zaT,yd (zcZ.2 w),yg];rfl
theorem zmG(a:Option Addr)(c:Nat)(S:List Nd)(k:Nat)(w:World)(hN:S.length<=24)(hk:k<S.length)(hS:zae w a S) :
  Calls Tryz.prog 92 #[.agg #[.slice a S.length c],.int .i64 (k:Int)] w fun e w' => ∃ v,e=.returned v/\Below w.heap.size w w' /\ w'.ownsRow w.heap.size 3 1 v (zdU S k).length ((zdU S k).map (Value.int .i64)):=by
 obtain⟨i0,b7,d7,d8,d9⟩:=info_parts info3;have dl:=fun(W:World) (hW:zae W a S)=>zgC a c S (k:Int) W hN hW;rw[zop hk] at dl;have DL:Hid _:=dl;have HS:Hid (zae w a S):=hS
 have PL:Hid (∀ y ∈ zbj S k,∃ x:Nat,y=x/\x<S.length):=fun y hy=>by
  obtain⟨x,_,e1,e2,_⟩:=zqj hk hy;exact⟨x,e1,e2⟩
 have PB:Hid ((zbj S k).length<=25):=yx (zgj S k) (by omega);have R0:Hid (zdU S k=flt (zcq S) (zbj S k)):=(rfl:zdU S k=_);clear hS dl;generalize zdU S k=a9 at *;generalize zbj S k=P at *;obtain⟨m,hm⟩:∃ m,P.length=m:=⟨_,rfl⟩;have HM:Hid (P.length=m):=hm;rw[hm] at DL PB;have e9:m<=25:=PB.out;obtain⟨n,hn⟩:∃ n,S.length=n:=⟨_,rfl⟩;have HN:Hid (S.length=n):=hn;rw[hn] at hN hk DL PL |-;clear hn hm
 go_enter Tryz.func92,Tryz.ntmps92
 go_wp2_with fail
 refine yf (DL.out _ (HS.out.below ((yj _ _).alloc (yi _) _))) ?_;rintro e D ⟨v,rfl,b4,O⟩;have A:=b4;simp only[yk] at A;have c8:=A.size;simp only[yk] at c8;have b5:D.ownsRow (w.alloc (.cells #[.slice a n c] 24)).heap.size 3 1 v P.length (P.map (Value.int .i64)):=by rw[HM.out];exact O
 obtain⟨pa,pc,hv,J,_⟩:=zat b5;rw[HM.out] at hv;subst hv;have l0:D.cell? ⟨w.heap.size,0,none⟩=some (.slice a n c):=(A.cell (by simp)).trans (by go_simp);have a6:Hid (Below w.heap.size w D):=((yj _ _).alloc (yi _) _).trans (A.mono (by omega));have HI:Hid (zaj D pa P):=J;clear b4 A O b5 J
 go_wp2_with fail
 go_loopg [5,12] m (fun g s5 s12 wr=>∃ (i:Nat) (l:List Int),i<=m/\m-i<=g/\s12=.int .i64 i/\l.length<=i/\Hid (Below D.heap.size D wr)/\wr.cell? ⟨w.heap.size,0,none⟩=some (.slice a n c)/\D.heap.size<=wr.heap.size/\Hid (wr.ownsRow D.heap.size 3 1 s5 l.length (l.map (Value.int .i64)))/\Hid (l=flt (zcq S) (P.take i)))
 case atStart=>exact⟨0,[],by omega,by omega,rfl,by simp,yj _ _,l0,yi _,World.ownsRow_nil _ _ _ _,(by simp[flt]:([]:List Int)=flt (zcq S) (P.take 0))⟩
 case round =>
  obtain⟨i,l,hi,hg,rfl,b9,HB,cs,c9,T,HE⟩:=hrel;clear l0;obtain⟨qa,qc,hv,_⟩:=zat T.out;subst hv;obtain⟨ln,a4⟩:∃ y,l.length=y:=⟨_,rfl⟩;have F:Hid (l.length=ln):=a4;rw[a4] at T b9 |-;clear a4;have a8:Hid (Below w.heap.size w wr):=a6.out.trans (HB.out.mono a6.out.size);by_cases a5:i<m
  ·obtain⟨y,hy,d6⟩:=PL.out (P.getD i 0) (by rw[zaf P 0 (by rw[HM.out];exact a5)];exact List.getElem_mem _);obtain⟨pb,po,ep,c7⟩:=(HI.out.below HB.out) i (by rw[HM.out];exact a5);subst ep;rw[hy] at c7;obtain⟨nb,no,ea,_,_,_,_,_,_,c6,_⟩:=(HS.out.below a8.out) y (by rw[HN.out];exact d6);subst ea;have f0:(y:Int)<(n:Int):=by omega
   have e8:(i:Int)<(m:Int):=by omega
   have NX:Hid (flt (zcq S) (P.take (i+1))=l++(if (nd S y).h = -1 then [] else [(y:Int)])):=by
    have e:=zcY (zcq S) P i (by rw[HM.out];exact a5);rw[hy] at e;show flt _ _=_;rw[e,<- HE.out];unfold zcq;rw[yg];by_cases h:(nd S y).h = -1 <;> simp[h]
   clear HE hy;generalize (nd S y).h=hh at *;by_cases U:hh = -1
   ·subst U;have E2:Hid (l=flt (zcq S) (P.take (i+1))):=(by rw[NX.out];simp:l=flt (zcq S) (P.take (i+1)));have V:Hid (wr.ownsRow D.heap.size 3 1 (.slice qa ln qc) l.length (l.map (Value.int .i64))):=(by rw[F.out];exact T.out:wr.ownsRow D.heap.size 3 1 (.slice qa ln qc) l.length (l.map (Value.int .i64)));clear NX T
    go_wp2
    go_roundg (m-(i+1))
    case measure=>omega
    case rel=>exact⟨i+1,l,by omega,by omega,by go_num,by rw[F.out];omega,HB,cs,c9,V,E2⟩
   ·have e6:(hh == -1)=false:=beq_eq_false_iff_ne.2 U;have e7:decide (hh = -1)=false:=decide_eq_false U;have E2:Hid (l++[(y:Int)]=flt (zcq S) (P.take (i+1))):=(by rw[NX.out,ya U]:l++[(y:Int)]=flt (zcq S) (P.take (i+1)));have OB:Hid (∀ k,(Value.slice qa ln qc).ownBlock=some k->D.heap.size<=k):=fun k hk=>(T.out.lt k hk).1;have e0:ln<=24:=by omega
    clear NX
    go_wp2_with (at_builtin;refine wpList_append_own _ rfl _ _ 29 rfl D.heap.size 3 i0 (.int .i64 0) 1 8 Tryz.underlying29 b7 d7 d8 d9 rfl (by decide) _ _ _ rfl (T.out.alloc _) ⟨wr.heap.size,0,none⟩ 1 1 [.int .i64 (y:Int)] rfl rfl ?c1 ?c2 ?c3 ?c4 ?c5 ?_)
    case c2=>first|rfl|(intro u hu;simp at hu;subst hu;rfl)|simp
    case c3=>unfold maxLen;omega
    case c4=>omega
    case c5=>first|omega|(simp;omega)
    case c1=>first|(go_simp;done)|(intro j u hj;match j,hj with|0,hj=>(cases hj;go_simp)|(j+1),hj=>simp at hj)
    intro v' w2 M I _;have Z:Below D.heap.size wr w2:=((yj _ wr).alloc (by omega) _).grown I (by simp;omega) (fun k hk=>OB.out k hk);have a7:Hid (Below D.heap.size D w2):=HB.out.trans Z;have b6:=(Z.cell (p:=⟨w.heap.size,0,none⟩) (by show w.heap.size < _;omega)).trans cs
    have V:Hid (w2.ownsRow D.heap.size 3 1 v' (l++[(y:Int)]).length ((l++[(y:Int)]).map (Value.int .i64))):=by
     have h2:=M;rw[show (l++[(y:Int)]).length=ln+1 by simp[F.out],List.map_append];exact h2
    have hs2:=a7.out.size;clear M I Z cs T
    go_wp2_with fail
    go_roundg (m-(i+1))
    case measure=>omega
    case rel=>exact⟨i+1,l++[(y:Int)],by omega,by omega,by go_num,by simp[F.out];omega,a7,b6,hs2,V,E2⟩
  ·have b8:i=m:=by omega
   subst b8;have e:=HE.out;rw[List.take_of_length_le (by rw[HM.out];omega),<- R0.out] at e
   have OW:Hid (wr.ownsRow w.heap.size 3 1 (.slice qa ln qc) a9.length (a9.map (Value.int .i64))):=by
    have h2:=zcl T.out (show w.heap.size<=D.heap.size by omega);rw[<- F.out,e] at h2;rw[<- F.out,e];exact h2
   clear HE e T
   go_wp2
   go_ret;exact⟨_,rfl,a8.out,OW.out⟩
theorem zir{q:Nat}(h:q<=24):(Lit.int .i64 (q:Int)).wf=true:=by
 unfold Lit.wf;simp[IntKind.min,IntKind.max,IntKind.signed,IntKind.bits];omega
theorem zaA.mono{w:World}{b n A:Nat}{f:Int->Bool}(h:zaA w b n f)(hn:n<=A):zaA w b A f:=let ⟨D,h1,h2⟩:=h;⟨D,h1.mono hn,h2⟩
theorem zaA.congr{w:World}{b n:Nat}{f g:Int->Bool}(h:zaA w b n f)(e:∀ k,f k=g k):zaA w b n g:=by
 have:f=g:=funext e;rw[<- this];exact h
theorem zcV(a:Option Addr)(c:Nat)(S:List Nd)(k:Int)(w:World)(hN:S.length<=9223372036854775807)(hk:k≠-1)(hS:zae w a S) :
  Calls Tryz.prog 91 #[.agg #[.slice a S.length c],.int .i64 k] w fun e w' => e=.returned (.int .i64 (zbw S k))/\Below w.heap.size w w' := by
 have HS:Hid (zae w a S):=hS;have U:Hid (∀ i,i<S.length->(nd S i).h=k->(∀ j,j<i->(nd S j).h≠k)->zbw S k=i):=fun i hi h1 Z=>zhx hk hi h1 Z;have V:Hid ((∀ i,i<S.length->(nd S i).h≠k)->zbw S k = -1):=fun h=>zfI h;clear hS hk;generalize zbw S k=R at *;obtain⟨n,hn⟩:∃ n,S.length=n:=⟨_,rfl⟩;have HN:Hid (S.length=n):=hn;rw[hn] at hN U V |-;clear hn
 go_enter Tryz.func91,Tryz.ntmps91
 go_wp2_with fail
 go_loopg [10] n (fun g s10 wr=>∃ i:Nat,i<=n/\n-i<=g/\s10=.int .i64 i/\Hid (Below w.heap.size w wr)/\Hid (∀ j,j<i->(nd S j).h≠k))
 case atStart=>exact⟨0,by omega,by omega,rfl,zab _ _,fun j hj=>absurd hj (yr _)⟩
 case round =>
  obtain⟨i,hi,hg,rfl,D,NF⟩:=hrel;by_cases F:i<n
  ·have a4:(i:Int)<(n:Int):=by omega
   obtain⟨b,o,ea,c0,c1,c2,c3,c4,⟨ka,kc,c5,_⟩,c6,c7⟩:=(HS.out.below D.out) i (by rw[HN.out];exact F);subst ea;have X1:Hid ((nd S i).h=k->R=i):=fun h=>U.out i F h NF.out
   have I:Hid ((nd S i).h≠k->∀ j,j<i+1->(nd S j).h≠k):=fun h j hj=>by
    by_cases e:j=i
    ·subst e;exact h
    ·exact NF.out j (by omega)
   clear NF;generalize nd S i=x at *;obtain⟨xu,xn,xt,xm,xp,T,O,xc⟩:=x;dsimp only at c0 c1 c2 c3 c4 c5 c6 c7 I X1;generalize T.length=xl at *;by_cases hh:O=k
   ·subst hh;have A:Hid (R=i):=X1.out rfl;clear X1 I
    go_wp2_with fail
    go_ret;exact⟨by first|(rw[A.out];done)|exact A.out.symm|simp[A.out],D.out.trans ((zab _ _).mono D.out.size)⟩
   ·have h1:(O == k)=false:=beq_eq_false_iff_ne.2 hh;have Z:decide (O=k)=false:=decide_eq_false hh;have J:Hid (∀ j,j<i+1->(nd S j).h≠k):=I.out hh;clear X1 I
    go_wp2_with fail
    go_roundg (n-(i+1))
    case measure=>omega
    case rel=>exact⟨i+1,by omega,by omega,by go_num,D.out.trans ((zab _ _).mono D.out.size),J⟩
  ·have M:i=n:=by omega
   subst M;have A:Hid (R = -1):=V.out NF.out;clear NF
   go_wp2_with fail
   go_ret;exact⟨by first|(rw[A.out];done)|exact A.out.symm|simp[A.out],D.out⟩
end Go.Proofs.YtgjfmepbphfjoaaGreat
