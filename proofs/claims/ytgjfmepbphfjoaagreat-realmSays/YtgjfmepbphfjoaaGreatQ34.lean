/-
  x
-/
import Derived.Test.YtgjfmepbphfjoaaGreatQ33
namespace Go.Proofs.YtgjfmepbphfjoaaGreat
set_option maxRecDepth 100000
set_option maxHeartbeats 4000000
set_option linter.unusedVariables false
open Go.RowKit
theorem zaN{W:World}{b t:Nat}{w v1 v2 A D:Value}(h:W.heap[b]?=some (.cells #[w,v1,v2,A,D] t (0,0))):W.cell? ⟨b,0,none⟩=some w/\W.cell? ⟨b,1,none⟩=some v1/\W.cell? ⟨b,2,none⟩=some v2/\W.cell? ⟨b,3,none⟩=some A/\W.cell? ⟨b,4,none⟩=some D/\b<W.heap.size :=
 ⟨by simp[World.cell?,h],by simp[World.cell?,h],by simp[World.cell?,h],by simp[World.cell?,h],by simp[World.cell?,h],zaC h⟩
theorem zbg{W:World}{b t:Nat}{w v1:Value}(h:W.heap[b]?=some (.cells #[w,v1] t (0,0))):W.cell? ⟨b,0,none⟩=some w/\W.cell? ⟨b,1,none⟩=some v1/\b<W.heap.size :=
 ⟨by simp[World.cell?,h],by simp[World.cell?,h],zaC h⟩
theorem zqN(V:World)(t:Nat)(T M:Int):zaP (V.alloc (.cells #[.int .i64 T,.int .i64 M,.bool false] t)) (some ⟨V.heap.size,0,none⟩) [⟨T,M,false⟩]:=fun i w=>by
 match i,w with
 | 0,_=>exact⟨_,_,rfl,zad V _ t 0 rfl,zad V _ t 1 rfl,zad V _ t 2 rfl⟩
theorem zey{S:List Nd}(wf:WF S)(p u:Int):zco S p u=zas S p u:=by
 unfold zas;rw[yd ((zdy S).2 wf)]
theorem zmk(x:Nd)(n:Int):∀ v w,w<8->(zdi { x with m:=n } v)[w]?=if w=3 then some (.int .i64 n) else (zdi x v)[w]?:=fun v w A=>by
 have:w=0\/w=1\/w=2\/w=3\/w=4\/w=5\/w=6\/w=7:=by omega
 rcases this with rfl|rfl|rfl|rfl|rfl|rfl|rfl|rfl <;> rfl
theorem zgk(n:Int)(w:World)(b:Bool)(h:decide (-1000000<=n/\n<=1000000)=b):Calls Tryz.prog 36 #[.int .i64 n,.int .i64 (-1000000),.int .i64 1000000] w fun e w' => e=.returned (.bool b)/\w' = w:=by
 have:=zbR n (-1000000) 1000000 w
 rwa [h] at this
theorem zls(n:Int)(m:Int)(w:World)(b:Bool)(h:decide (0<=n/\n<=m)=b):Calls Tryz.prog 36 #[.int .i64 n,.int .i64 0,.int .i64 m] w fun e w' => e=.returned (.bool b)/\w' = w:=by
 have:=zbR n 0 m w
 rwa [h] at this
theorem zlv{w:World}{B:Nat}{S:List Nd}{K:Nat->Value}{a:Option Addr}{c:Nat}(h:zca B S S.length K (.slice a S.length c) w)(h0:0<S.length):∃ A,a=some ⟨A,0,none⟩/\B<=A/\A<w.heap.size:=by
 have h1:=h.1;rcases h1.2 with ⟨e,F⟩ |⟨g,cap,D,e,_⟩
 ·omega
 ·cases e;exact⟨g,rfl,(h1.lt g rfl).1,(h1.lt g rfl).2⟩
theorem zoG{S:List Nd}(wf:WF S){k:Nat}(w:k<S.length)(A:(nd S k).p≠-1):0<=(nd S k).p/\(nd S k).p<(S.length:Int):=by
 obtain⟨q,e,hq,_⟩:=wf.parent_place w A;omega
theorem zmb(L:List (Int × Int))(k:Nat)(h:Int × Int)(w:k<L.length):hcells (L.set k h)=((hcells L).set (k*2) (.int .i64 h.1)).set (k*2+1) (.int .i64 h.2):=by
 unfold hcells
 induction L generalizing k with
 | nil=>exact absurd w (yr _)
 | cons x r A =>
  match k,w with
  | 0,_=>simp
  | k+1,w =>
   have h1:=A k (by simpa using w);rw[List.set_cons_succ,List.flatMap_cons,List.flatMap_cons,h1];rw[show (k+1)*2=k*2+1+1 by omega];simp
theorem ziL{w:World}{B g cap:Nat}{L:List (Int × Int)}{k:Nat}{h:Int × Int}(D:k<L.length)(H:w.ownsRow B 39 2 (.slice (some ⟨g,0,none⟩) 16 cap) 16 (hcells L)):((w.setCell ⟨g,k*2,none⟩ (.int .i64 h.1)).setCell ⟨g,k*2+1,none⟩ (.int .i64 h.2)).ownsRow B 39 2 (.slice (some ⟨g,0,none⟩) 16 cap) 16 (hcells (L.set k h)):=by
 have h1:=(H.stored (k*2) (.int .i64 h.1)).1;have A:=(h1.stored (k*2+1) (.int .i64 h.2)).1;rw[zmb L k h D];exact A
theorem zbx.put2{w:World}{Z:Nat}{R:Rl}{xk xq xr xs xn h1 D:Int}{s0:Option Addr}{k0:Nat}{K:Nat->Value}{g M:Nat}{a2:Option Addr}{c2:Nat}{t0:Option Addr}{U:Nat}{V X:World}(I:zbx w Z R xk xq xr xs xn h1 D s0 k0 K g M a2 c2 t0 U V)(gx:∀ b,b≠g->b≠w.heap.size->b<V.heap.size->X.heap[b]?=V.heap[b]?){L:List (Int × Int)}(hL:L.length=16)(hs:X.ownsRow (w.heap.size+5) 39 2 (.slice (some ⟨g,0,none⟩) 16 M) 16 (hcells L))(bel:Below w.heap.size w X){O:Option Addr}{c' : Nat}{T:List Nd}(hT:zae X O T)(F:zaY w a2 R.i):zaS X ⟨O,some ⟨g,0,none⟩,a2,t0,c', M,c2,U⟩ ⟨T,L,R.i,R.t⟩:=by
 rw[<- hL] at hs;obtain⟨b,c,e,h⟩:=zeE hs;cases e;obtain⟨b,c,e,D⟩:=zcp (zao (w' := X) I.ts (fun A J=>gx A (fun e=>by subst e;exact zbH I.hs I.ts (by decide) A rfl J) (fun e=>by have:=(I.ts.lt A J).1;omega) (I.ts.lt A J).2));cases e;exact⟨hT,h,F.below bel,D⟩
theorem zcD{w:World}{b t:Nat}{D v1 v2 A v:Value}(h:w.heap[b]?=some (.cells #[D,v1,v2,A] t (0,0))):(w.setCell ⟨b,0,none⟩ v).heap[b]?=some (.cells #[v,v1,v2,A] t (0,0)):=by
 show (w.heap.modify b _)[b]?=_;rw[Array.getElem?_modify,yd rfl,h];rfl
theorem znZ(W:World)(b t:Nat)(x y:Int)(h:W.heap.size=b):∀ j u,([.int .i64 x,.int .i64 y]:List Value)[j]?=some u->(W.alloc (.cells #[.int .i64 x,.int .i64 y] t)).cell? ((⟨b,0,none⟩:Addr).add j)=some u:=fun j u w=>by
 subst h;rw[Addr.add_lit,yv];exact zad W #[.int .i64 x,.int .i64 y] t j (by simpa using w)
theorem zpU(x y:Int):∀ u ∈ ([.int .i64 x,.int .i64 y]:List Value),u.oneCell' = true:=fun u w=>by
 simp at w;rcases w with rfl|rfl <;> rfl
theorem zoa{w:World}{B:Nat}{v:Value}{x y:Int}(h:w.ownsRow B 39 2 v 1 [.int .i64 x,.int .i64 y]):∃ a c,v=.slice a 1 c/\zam w a [(x,y)]:=zeE (L:=[(x,y)]) h
theorem ziy{w w' : World}{o:Obj}(h:(w.alloc o).grownBy w' none):Below w.heap.size w w' :=(zab w o).grown h (by simp) (fun D A=>by cases A)
theorem zjd{x:Int}(h:isH x):∃ p:Nat,x=p/\p<16:=⟨x.toNat,by have:=h.1;omega,by have:=h.1;have:=h.2;omega⟩
theorem zfD{R:Rl}{p:Nat}{h:Int × Int}(e:R.hs.getD p (0,0)=h):hd R (p:Int)=h:=by
 unfold hd;rw[yg];exact e
def zfV(R:Rl)(x:Ac)(w:World)(e:Ending)(w' : World):Prop:=∃ B:RA,e=.returned (.tuple #[rlV B (doG R x).r,.int .i64 (doG R x).o,.int .i64 (doG R x).e])/\Below w.heap.size w w' /\ zaS w' B (doG R x).r
structure zcn (w:World) (R:Rl) (x:Ac) (o E:Int) (V:World):Prop where
 bel:Below w.heap.size w V
 z:V.heap[w.heap.size+1+1]?=some (.cells #[.slice none 0 0,.slice none 0 0,.slice none 0 0,.slice none 0 0] 31 (0,0))
 bad:E≠0->doG R x=bad E
 ok:E=0->∃ (b0 b1 b2 b3:Option Addr) (d0 d1 d2 d3:Nat) (Q:Rl),doG R x=⟨0,Q,o⟩/\V.heap[w.heap.size]?=some (bxR ⟨b0,b1,b2,b3,d0,d1,d2,d3⟩ Q)/\zaS V ⟨b0,b1,b2,b3,d0,d1,d2,d3⟩ Q
theorem zhH{E:Int}{R:Rl}{o:Int}(h:E=0):ans E R o=⟨0,R,o⟩:=yd h
theorem zgl{E:Int}{R:Rl}{o:Int}(h:E≠0):ans E R o=bad E:=ya h
theorem zbx.ask{w:World}{ab:Nat}{R:Rl}{D J M O F h1 h2:Int}{s0:Option Addr}{T:Nat}{K:Nat->Value}{g U:Nat}{a2:Option Addr}{c2:Nat}{t0:Option Addr}{Z:Nat}{V:World}(I:zbx w ab R D J M O F h1 h2 s0 T K g U a2 c2 t0 Z V)(A:R.hs.length=16){o E:Int}(hd:doG R ⟨D,J,M,O,F⟩=ans E R o):zcn w R ⟨D,J,M,O,F⟩ o E V :=
 ⟨I.bel,I.z,fun h=>hd.trans (zgl h),fun h=>⟨s0,some ⟨g,0,none⟩,a2,t0,T,U,c2,Z,R,hd.trans (zhH h),by rw[I.r,<- A],I.rl A I.nds⟩⟩
theorem zbx.sto{w:World}{ab:Nat}{R:Rl}{J O T U M h1 h2:Int}{s0:Option Addr}{k0:Nat}{K:Nat->Value}{g k1:Nat}{a2:Option Addr}{c2:Nat}{t0:Option Addr}{k3:Nat}{V:World}(I:zbx w ab R J O T U M h1 h2 s0 k0 K g k1 a2 c2 t0 k3 V)(A:R.hs.length=16){E:Int}{D:List Nd}{F:Option Addr}{Z:Nat}(hN:zae V F (rS E D))(hd:doG R ⟨J,O,T,U,M⟩=ans E ⟨D,R.hs,R.i,R.t⟩ 0):zcn w R ⟨J,O,T,U,M⟩ 0 E (V.setCell ⟨w.heap.size,0,none⟩ (.slice F (rS E D).length Z)) :=
 ⟨I.bel.setCell (yi _) _,(yo _ _ _ _ (by show w.heap.size+1+1≠w.heap.size;omega)).trans I.z,fun h=>hd.trans (zgl h),fun h=>by
  subst h;exact⟨F,some ⟨g,0,none⟩,a2,t0,Z,k1,c2,k3,_,hd.trans (zhH rfl),by rw[zcD I.r,<- A];rfl,(I.rl A hN).offB (sl4 I.r) (zfZ.refl _ _).set⟩⟩
theorem zbx.hnd{w:World}{ab:Nat}{R:Rl}{xk xq xr xs xn h1 O:Int}{s0:Option Addr}{k0:Nat}{K:Nat->Value}{g k1:Nat}{a2:Option Addr}{c2:Nat}{t0:Option Addr}{k3:Nat}{V:World}(I:zbx w ab R xk xq xr xs xn h1 O s0 k0 K g k1 a2 c2 t0 k3 V)(A:R.hs.length=16)(T:zaY w a2 R.i){E:Int}{D:List Nd}{F:Option Addr}{J n0 k:Nat}{h:Int × Int}(hk:k<16)(a5:g<n0/\w.heap.size<n0)(hN:∀ w3:World,(∀ b,n0<=b->w3.heap[b]?=V.heap[b]?)->zae w3 F (rS E D))(hd:doG R ⟨xk,xq,xr,xs,xn⟩=ans E ⟨D,R.hs.set k h,R.i,R.t⟩ 0):zcn w R ⟨xk,xq,xr,xs,xn⟩ 0 E (((V.setCell ⟨w.heap.size,0,none⟩ (.slice F (rS E D).length J)).setCell ⟨g,k*2,none⟩ (.int .i64 (rH E h).1)).setCell ⟨g,k*2+1,none⟩ (.int .i64 (rH E h).2)):=by
 have a4:w.heap.size+5<=g:=(I.hs.lt g rfl).1;have M:∀ b,b≠g->b≠w.heap.size->(((V.setCell ⟨w.heap.size,0,none⟩ (.slice F (rS E D).length J)).setCell ⟨g,k*2,none⟩ (.int .i64 (rH E h).1)).setCell ⟨g,k*2+1,none⟩ (.int .i64 (rH E h).2)).heap[b]?=V.heap[b]?:=fun b U Z=>by rw[yo _ _ _ _ U,yo _ _ _ _ U,yo _ _ _ _ Z]
 have bel:Below w.heap.size w (((V.setCell ⟨w.heap.size,0,none⟩ (.slice F (rS E D).length J)).setCell ⟨g,k*2,none⟩ (.int .i64 (rH E h).1)).setCell ⟨g,k*2+1,none⟩ (.int .i64 (rH E h).2)):=((I.bel.setCell (yi _) _).setCell (by show w.heap.size<=g;omega) _).setCell (by show w.heap.size<=g;omega) _;refine⟨bel,(M _ (by omega) (by omega)).trans I.z,fun h=>hd.trans (zgl h),fun h=>?_⟩;subst h;refine⟨F,some ⟨g,0,none⟩,a2,t0,J,k1,c2,k3,_,hd.trans (zhH rfl),?_,I.put2 (fun b h1 O _=>M b h1 O) (by rw[List.length_set];exact A) (ziL (by rw[A];exact hk) (zao I.hs (fun kk hk=>yo _ _ _ _ (by show kk≠w.heap.size;have:=(I.hs.lt kk hk).1;omega)))) bel (hN _ (fun b U=>M b (by omega) (by omega))) T⟩;rw[yo _ _ _ _ (by show w.heap.size≠g;omega),yo _ _ _ _ (by show w.heap.size≠g;omega),zcD I.r];dsimp only[bxR];rw[List.length_set,A];rfl
theorem zjL{E o A:Int}{R:Rl}(h:E=0->o=A):ans E R o=ans E R A:=by
 by_cases w:E=0
 ·rw[h w]
 ·rw[zgl w,zgl w]
theorem zbx.mrk{w:World}{ab:Nat}{R:Rl}{Z xq xr xs xn h1 M:Int}{A:Nat}{T:Nat}{K:Nat->Value}{g k1:Nat}{a2:Option Addr}{c2:Nat}{t0:Option Addr}{k3:Nat}{V:World}(I:zbx w ab R Z xq xr xs xn h1 M (some ⟨A,0,none⟩) T K g k1 a2 c2 t0 k3 V)(D:R.hs.length=16)(O:zaY w a2 R.i){k:Nat}{n:Int}(F:k<R.s.length)(hd:doG R ⟨Z,xq,xr,xs,xn⟩=⟨0,⟨R.s.set k { nd R.s k with m:=n },R.hs,R.i,R.t⟩,0⟩):zcn w R ⟨Z,xq,xr,xs,xn⟩ 0 0 (V.setCell ⟨A,k*8+3,none⟩ (.int .i64 n)):=by
 obtain⟨x,ex,a4,_⟩:=zlv I.own (by omega);cases ex;have J:zca (w.heap.size+5) (R.s.set k { nd R.s k with m:=n }) R.s.length K (.slice (some ⟨A,0,none⟩) R.s.length T) (V.setCell ⟨A,k*8+3,none⟩ (.int .i64 n)):=I.own.put1 F rfl (by omega) _ (zmk _ _) rfl;have bel:Below w.heap.size w (V.setCell ⟨A,k*8+3,none⟩ (.int .i64 n)):=I.bel.setCell (by show w.heap.size<=A;omega) _;refine⟨bel,(yo _ _ _ _ (by show w.heap.size+1+1≠A;omega)).trans I.z,fun h=>absurd rfl h,fun _=>⟨some ⟨A,0,none⟩,some ⟨g,0,none⟩,a2,t0,T,k1,c2,k3,_,hd,?_,?_⟩⟩
 ·rw[yo _ _ _ _ (by show w.heap.size≠A;omega),I.r];dsimp only[bxR];rw[List.length_set,D]
 ·have hh:=zao (w' := V.setCell ⟨A,k*8+3,none⟩ (.int .i64 n)) I.hs (fun U F=>yo _ _ _ _ (fun e=>by subst e;exact zbH I.hs I.own.1 (by decide) U F rfl));rw[<- D] at hh;obtain⟨b,c,e,h⟩:=zeE hh;cases e;obtain⟨b,c,e,M⟩:=zcp (zao (w' := V.setCell ⟨A,k*8+3,none⟩ (.int .i64 n)) I.ts (fun U F=>yo _ _ _ _ (fun e=>by subst e;exact zbH I.ts I.own.1 (by decide) U F rfl)));cases e;exact⟨J.ndsAt (by rw[List.length_set]),h,O.below bel,M⟩
theorem zbx.hst{w:World}{ab:Nat}{R:Rl}{U xq xr xs Z h1 h2:Int}{s0:Option Addr}{T:Nat}{K:Nat->Value}{g k1:Nat}{a2:Option Addr}{c2:Nat}{t0:Option Addr}{k3:Nat}{V:World}(I:zbx w ab R U xq xr xs Z h1 h2 s0 T K g k1 a2 c2 t0 k3 V)(A:R.hs.length=16)(O:zaY w a2 R.i){k:Nat}{h:Int × Int}(J:k<16)(hd:doG R ⟨U,xq,xr,xs,Z⟩=⟨0,⟨R.s,R.hs.set k h,R.i,R.t⟩,0⟩):zcn w R ⟨U,xq,xr,xs,Z⟩ 0 0 ((V.setCell ⟨g,k*2,none⟩ (.int .i64 h.1)).setCell ⟨g,k*2+1,none⟩ (.int .i64 h.2)).drew:=by
 have a4:w.heap.size+5<=g:=(I.hs.lt g rfl).1;have F:∀ b,b≠g->((V.setCell ⟨g,k*2,none⟩ (.int .i64 h.1)).setCell ⟨g,k*2+1,none⟩ (.int .i64 h.2)).drew.heap[b]?=V.heap[b]?:=fun b hb=>by rw[heap_drew,yo _ _ _ _ hb,yo _ _ _ _ hb]
 have bel:Below w.heap.size w ((V.setCell ⟨g,k*2,none⟩ (.int .i64 h.1)).setCell ⟨g,k*2+1,none⟩ (.int .i64 h.2)).drew:=((I.bel.setCell (by show w.heap.size<=g;omega) _).setCell (by show w.heap.size<=g;omega) _).drew;have M:zca (w.heap.size+5) R.s R.s.length K (.slice s0 R.s.length T) ((V.setCell ⟨g,k*2,none⟩ (.int .i64 h.1)).setCell ⟨g,k*2+1,none⟩ (.int .i64 h.2)).drew:=⟨zao I.own.1 (fun D J=>F D (fun e=>by subst e;exact zbH I.hs I.own.1 (by decide) D rfl J)),fun i hi=>zao (I.own.2 i hi) (fun D J=>F D (fun e=>by subst e;exact zbH I.hs (I.own.2 i hi) (by decide) D rfl J))⟩
 have NX:zae ((V.setCell ⟨g,k*2,none⟩ (.int .i64 h.1)).setCell ⟨g,k*2+1,none⟩ (.int .i64 h.2)).drew s0 R.s:=by
  obtain⟨a,c,e,h⟩:=M.nds;cases e;exact h
 refine⟨bel,(F _ (by omega)).trans I.z,fun h=>absurd rfl h,fun _=>⟨s0,some ⟨g,0,none⟩,a2,t0,T,k1,c2,k3,_,hd,?_,I.put2 (fun b h1 _ _=>F b h1) (by rw[List.length_set];exact A) (zao (ziL (by rw[A];exact J) I.hs) (fun D _=>by rw[heap_drew])) bel NX O⟩⟩;rw[F _ (by omega),I.r];dsimp only[bxR];rw[List.length_set,A]
theorem zbP{w A:World}{a0 a1 a2 a3:Option Addr}{c0 c1 c2 c3:Nat}{R:Rl}{p:Nat}{I M O J h1 D:Int}{s0:Option Addr}{Z:Nat}{K:Nat->Value}{g k1:Nat}{t0:Option Addr}{k3:Nat}(hL:zaS w ⟨a0,a1,a2,a3,c0,c1,c2,c3⟩ R)(a5:R.hs.length=16)(hh:R.hs.getD p (0,0)=(h1,D))(hp:p<16)(V:Below (((w.alloc (.cells #[.slice a0 R.s.length c0,.slice a1 R.hs.length c1,.slice a2 R.i.length c2,.slice a3 R.t.length c3] 31)).alloc (.cells #[.int .i64 I,.int .i64 (p:Int),.int .i64 M,.int .i64 O,.int .i64 J] 41)).alloc (.cells #[.slice none 0 0,.slice none 0 0,.slice none 0 0,.slice none 0 0] 31)).heap.size (((w.alloc (.cells #[.slice a0 R.s.length c0,.slice a1 R.hs.length c1,.slice a2 R.i.length c2,.slice a3 R.t.length c3] 31)).alloc (.cells #[.int .i64 I,.int .i64 (p:Int),.int .i64 M,.int .i64 O,.int .i64 J] 41)).alloc (.cells #[.slice none 0 0,.slice none 0 0,.slice none 0 0,.slice none 0 0] 31)) A)
  (hO:zca (w.heap.size+1+1+1+1+1) R.s R.s.length K (.slice s0 R.s.length Z) A) (U:A.ownsRow (w.heap.size+1+1+1+1+1) 39 2 (.slice (some ⟨g,0,none⟩) 16 k1) 16 (hcells R.hs)) (hT:A.ownsRow (w.heap.size+1+1+1+1+1) 3 1 (.slice t0 R.t.length k3) R.t.length (R.t.map (Value.int .i64))) :
  zbx w A.heap.size R I (p:Int) M O J h1 D s0 Z K g k1 a2 c2 t0 k3 (((((A.setCell ⟨w.heap.size,0,none⟩ (.slice s0 R.s.length Z)).setCell ⟨w.heap.size,1,none⟩ (.slice (some ⟨g,0,none⟩) 16 k1)).setCell ⟨w.heap.size,2,none⟩ (.slice a2 R.i.length c2)).setCell ⟨w.heap.size,3,none⟩ (.slice t0 R.t.length k3)).alloc (.cells #[.int .i64 h1,.int .i64 D] 39))/\A.cell? ⟨g,p*2,none⟩=some (.int .i64 h1)/\A.cell? ⟨g,p*2+1,none⟩=some (.int .i64 D)/\g<A.heap.size/\w.heap.size<g/\A.heap[w.heap.size]?=some (.cells #[.slice a0 R.s.length c0,.slice a1 R.hs.length c1,.slice a2 R.i.length c2,.slice a3 R.t.length c3] 31 (0,0))/\A.heap[w.heap.size+1]?=some (.cells #[.int .i64 I,.int .i64 (p:Int),.int .i64 M,.int .i64 O,.int .i64 J] 41 (0,0))/\A.heap[w.heap.size+1+1]?=some (.cells #[.slice none 0 0,.slice none 0 0,.slice none 0 0,.slice none 0 0] 31 (0,0)):=by
 have a4:Below w.heap.size w (((w.alloc (.cells #[.slice a0 R.s.length c0,.slice a1 R.hs.length c1,.slice a2 R.i.length c2,.slice a3 R.t.length c3] 31)).alloc (.cells #[.int .i64 I,.int .i64 (p:Int),.int .i64 M,.int .i64 O,.int .i64 J] 41)).alloc (.cells #[.slice none 0 0,.slice none 0 0,.slice none 0 0,.slice none 0 0] 31)):=(zai w _ _).trans ((zab _ _).mono (by first|(simp;done)|(simp;omega)));have T:Below w.heap.size w A:=a4.trans (V.mono a4.size);have bx:A.heap[w.heap.size+1]?=some (.cells #[.int .i64 I,.int .i64 (p:Int),.int .i64 M,.int .i64 O,.int .i64 J] 41 (0,0)):=(V.block _ (by first|(simp;done)|(simp;omega))).trans (((zab _ _).block _ (by simp)).trans (by simpa using heap_alloc_new (w.alloc (.cells #[.slice a0 R.s.length c0,.slice a1 R.hs.length c1,.slice a2 R.i.length c2,.slice a3 R.t.length c3] 31)) (.cells #[.int .i64 I,.int .i64 (p:Int),.int .i64 M,.int .i64 O,.int .i64 J] 41)));have bz:A.heap[w.heap.size+1+1]?=some (.cells #[.slice none 0 0,.slice none 0 0,.slice none 0 0,.slice none 0 0] 31 (0,0)):=(V.block _ (by simp)).trans (by simpa using heap_alloc_new ((w.alloc (.cells #[.slice a0 R.s.length c0,.slice a1 R.hs.length c1,.slice a2 R.i.length c2,.slice a3 R.t.length c3] 31)).alloc (.cells #[.int .i64 I,.int .i64 (p:Int),.int .i64 M,.int .i64 O,.int .i64 J] 41)) (.cells #[.slice none 0 0,.slice none 0 0,.slice none 0 0,.slice none 0 0] 31))
 have br:A.heap[w.heap.size]?=some (.cells #[.slice a0 R.s.length c0,.slice a1 R.hs.length c1,.slice a2 R.i.length c2,.slice a3 R.t.length c3] 31 (0,0)):=(V.block _ (by first|(simp;done)|(simp;omega))).trans (((zab _ _).block _ (by first|(simp;done)|(simp;omega))).trans (((zab _ _).block _ (by simp)).trans (zbS _ _ _ _ _ _)));have b4:=(U.lt g rfl).1;have a7:g<A.heap.size:=(U.lt g rfl).2;have a8:w.heap.size<g:=by omega
 have a6:zaY A a2 R.i:=hL.2.2.1.below T
 obtain⟨q1,q2⟩:A.cell? ⟨g,p*2,none⟩=some (.int .i64 h1)/\A.cell? ⟨g,p*2+1,none⟩=some (.int .i64 D):=by
  obtain⟨y1,y2⟩:=zbt R.hs p (by rw[a5];exact hp);rw[hh] at y1 y2;have y3:=U.cells (g:=g) rfl _ _ y1;have y4:=U.cells (g:=g) rfl _ _ y2;rw[Addr.add_lit,yv] at y3 y4;exact⟨y3,y4⟩
 have HI:(zbx w A.heap.size R I (p:Int) M O J h1 D s0 Z K g k1 a2 c2 t0 k3 (((((A.setCell ⟨w.heap.size,0,none⟩ (.slice s0 R.s.length Z)).setCell ⟨w.heap.size,1,none⟩ (.slice (some ⟨g,0,none⟩) 16 k1)).setCell ⟨w.heap.size,2,none⟩ (.slice a2 R.i.length c2)).setCell ⟨w.heap.size,3,none⟩ (.slice t0 R.t.length k3)).alloc (.cells #[.int .i64 h1,.int .i64 D] 39))):=by
  have key:∀ b,b<A.heap.size->b≠w.heap.size->(((((A.setCell ⟨w.heap.size,0,none⟩ (.slice s0 R.s.length Z)).setCell ⟨w.heap.size,1,none⟩ (.slice (some ⟨g,0,none⟩) 16 k1)).setCell ⟨w.heap.size,2,none⟩ (.slice a2 R.i.length c2)).setCell ⟨w.heap.size,3,none⟩ (.slice t0 R.t.length k3)).alloc (.cells #[.int .i64 h1,.int .i64 D] 39)).heap[b]?=A.heap[b]?:=fun b V F=>((zab _ _).block b (by simpa using V)).trans (by rw[yo _ _ _ _ F,yo _ _ _ _ F,yo _ _ _ _ F,yo _ _ _ _ F]);refine⟨?_,?_,(key _ (zaC bx) (by omega)).trans bx,(key _ (zaC bz) (by omega)).trans bz,by simpa using heap_alloc_new ((((A.setCell ⟨w.heap.size,0,none⟩ (.slice s0 R.s.length Z)).setCell ⟨w.heap.size,1,none⟩ (.slice (some ⟨g,0,none⟩) 16 k1)).setCell ⟨w.heap.size,2,none⟩ (.slice a2 R.i.length c2)).setCell ⟨w.heap.size,3,none⟩ (.slice t0 R.t.length k3)) (.cells #[.int .i64 h1,.int .i64 D] 39),hO.other (fun b V a9=>key b a9 (by omega)),zao U (fun b hk=>key b (U.lt b hk).2 (by have:=(U.lt b hk).1;omega)),zao hT (fun b hk=>key b (hT.lt b hk).2 (by have:=(hT.lt b hk).1;omega)),?_⟩
  ·exact((((T.setCell (yi _) _).setCell (yi _) _).setCell (yi _) _).setCell (yi _) _).trans ((zab _ _).mono (by simpa using T.size))
  ·exact zaU (zbl br) (zab _ _)
  ·exact(a6.offB (sl4 br) (zfZ.refl _ _).set.set.set.set).below (zab _ _)
 exact⟨HI,q1,q2,a7,a8,br,bx,bz⟩
theorem zbb{w D F:World}{b0 b1 b2 b3:Option Addr}{d0 d1 d2 d3:Nat}{Q:Rl}{u0 u1 u2 u3:Option Addr}{U v1 v2 V O e1 e2 e3:Nat}(I:D.heap[w.heap.size+1+1]?=some (.cells #[.slice u0 U O,.slice u1 v1 e1,.slice u2 v2 e2,.slice u3 V e3] 31 (0,0)))(J:Below w.heap.size w D)(M:zaS D ⟨b0,b1,b2,b3,d0,d1,d2,d3⟩ Q)
  (T:F=((((D.setCell ⟨w.heap.size+1+1,0,none⟩ (.slice b0 Q.s.length d0)).setCell ⟨w.heap.size+1+1,1,none⟩ (.slice b1 Q.hs.length d1)).setCell ⟨w.heap.size+1+1,2,none⟩ (.slice b2 Q.i.length d2)).setCell ⟨w.heap.size+1+1,3,none⟩ (.slice b3 Q.t.length d3))) :
  F.heap[w.heap.size+1+1]?=some (.cells #[.slice b0 Q.s.length d0,.slice b1 Q.hs.length d1,.slice b2 Q.i.length d2,.slice b3 Q.t.length d3] 31 (0,0))/\Below w.heap.size w F/\zaS F ⟨b0,b1,b2,b3,d0,d1,d2,d3⟩ Q:=by
 subst T;have A:w.heap.size<=w.heap.size+1+1:=by omega
 exact⟨zbl I,(((J.setCell A _).setCell A _).setCell A _).setCell A _,M.offB (sl4 I) (zfZ.refl _ _).set.set.set.set⟩
end Go.Proofs.YtgjfmepbphfjoaaGreat
