/-
  x
-/
import Derived.Test.YtcbcpomacdngmaaGreatM33
namespace Go.Proofs.YtcbcpomacdngmaaGreat
set_option maxRecDepth 100000
set_option maxHeartbeats 4000000
set_option linter.unusedVariables false
open Go.RowKit Go.ChangeShapes Go.WideShapes
theorem zkG{G:List Cl}(h:zaz G=0):∀ i,i<G.length->(cl G i).ks.length<=1000:=fun i hi=>by
 unfold zaz at h
 split at h
 ·omega
 ·have:=zey h i hi;unfold zeX at this
  split at this
  ·omega
  ·split at this
   ·omega
   ·omega
def hcL(hs:List (Int × Int)):List Value:=(List.range (hs.length*2)).map (hcF hs)
theorem zog(hs:List (Int × Int)):(hcL hs).length=hs.length*2:=by simp[hcL]
theorem zzA{hs:List (Int × Int)}{j:Nat}{v:Value}(h:(hcL hs)[j]?=some v):j<hs.length*2/\v=hcF hs j:=by
 obtain⟨hl,E⟩:=List.getElem?_eq_some_iff.1 h;have D:=hl;rw[zog] at D;refine⟨D,?_⟩;rw[<- E];simp[hcL]
theorem zyl(hs:List (Int × Int)):∀ v ∈ hcL hs,v.oneCell' = true:=fun v D=>by
 obtain⟨j,_,rfl⟩:=List.mem_map.1 D;rfl
theorem ztb{w:World}{a:Option Addr}{hs:List (Int × Int)}(h:zaw w a hs):∀ D,a=some D->∀ j v,(hcL hs)[j]?=some v->w.cell? (D.add j)=some v:=fun D e j v J=>by
 obtain⟨hl,rfl⟩:=zzA J;obtain⟨b,o,E,h1,I⟩:=h (j / 2) (by omega);rw[e] at E;cases E;rw[Addr.add_lit];by_cases F:j % 2=0
 ·have:j=j / 2*2:=by omega
  rw[show o+j=o+j / 2*2 by omega,h1];unfold hcF;rw[yb F]
 ·rw[show o+j=o+j / 2*2+1 by omega,I];unfold hcF;rw[ya F]
theorem zoe{w:World}{h:Nat}{hs:List (Int × Int)}(e:w.heap[h]?=some (.cells (hcL hs).toArray 61 (0,0))):w.rowIs h 61 (hs.length*2) (hcF hs):=by
 refine⟨_,e,?_,fun i hi=>?_⟩
 ·simp[zog]
 ·simp[hcL,hi]
theorem zpo{w:World}{a:Option Addr}{l:List Int}(h:zal w a l):∀ D,a=some D->∀ j v,(l.map (Value.int .i64))[j]?=some v->w.cell? (D.add j)=some v:=fun D e j v I=>by
 obtain⟨hl,F⟩:=List.getElem?_eq_some_iff.1 I;obtain⟨b,o,E,h1⟩:=h j (by simpa using hl);rw[e] at E;cases E;rw[List.getElem_map] at F;rw[zae l 0 (by simpa using hl),F] at h1;rw[Addr.add_lit];exact h1
theorem ztj{w:World}{a:Option Addr}{l:List Int}(h:zal w a l):a=none->l.length=0:=fun e=>by
 subst e
 cases hl:l.length with
 | zero=>rfl
 | succ n=>obtain⟨b,o,D,_⟩:=h 0 (by omega);cases D
theorem zxO(a:Option Addr)(c n:Nat)(D:List Value)(w:World)(hn:n<=100000)(hl:D.length=n*2)(E:a=none->n=0)(hsrc:∀ F,a=some F->∀ j u,D[j]?=some u->w.cell? (F.add j)=some u)(h1:∀ u ∈ D,u.oneCell' = true) :
  yL 103 #[.slice a n c] w fun e w' => e=.returned (.slice (some ⟨w.heap.size,0,none⟩) n n)/\Below w.heap.size w w' /\ w'.heap[w.heap.size]?=some (.cells D.toArray 61 (0,0)):=by
 have hz:(Tryz.prog.info? 61).map (fun i=>(i.zero,i.size,i.bytes))=some (some (.agg #[.int .i64 0,.int .i64 0]),2,16):=by kernel_rfl
 obtain⟨i0,J,a8,O,a9⟩:=info_parts hz
 have b0:∀ w:World,(Instr.makeSlice 44 (.int .i64 (n:Int)) (.int .i64 (n:Int))).run Tryz.prog w=.ok (.slice (some ⟨w.heap.size,0,none⟩) n n) (w.alloc (.cells (madeCells #[.int .i64 0,.int .i64 0] (n*2)) 61)):=fun w=>by
  have h:=run_make (P:=Tryz.prog) w 44 61 i0 _ Tryz.underlying44 J a8 .i64 .i64 n n (by omega) (by omega) (by rw[a9];omega) (by omega);rw[O] at h;simp only[yi] at h;exact h
 have HG:Hid ((w.alloc (.cells (madeCells #[.int .i64 0,.int .i64 0] (n*2)) 61)).heap[w.heap.size]?=some (.cells (madeCells #[.int .i64 0,.int .i64 0] (n*2)).toList.toArray 61 (0,0))):=by
  have:=yK w (.cells (madeCells #[.int .i64 0,.int .i64 0] (n*2)) 61);show _=_;simpa using this
 have a7:Hid (∀ o1:Obj,∀ F,a=some F->∀ j u,D[j]?=some u->(w.alloc o1).cell? (F.add j)=some u):=fun o1 F e j u hj=>by
  have h1:=hsrc F e j u hj;exact((zaa w o1).cell (yd _ _ h1)).trans h1
 have a5:Hid (a=none->n=0):=E;have a6:Hid (∀ u ∈ D,u.oneCell' = true):=h1;have Z:Hid (D.length=n*2):=hl;clear hsrc E h1 hl
 go_enter Tryz.func103,Tryz.ntmps103
 go_wp2_with (refine zcX rfl (.tmp 7) (.tmp 8) 44 44 rfl 61 i0 2 Tryz.underlying44 J O w.heap.size n n a c rfl rfl (madeCells #[.int .i64 0,.int .i64 0] (n*2)).toList 61 HG.out D Z.out (by simp[size_madeCells]) a5.out (a7.out _) a6.out ?_)
 intro w3 M I;have T:Hid (Below w.heap.size w w3):=I.out _ _ (zaa _ _) (yj _);have U:Hid _:=M;clear M I
 go_wp2
 go_ret;exact⟨rfl,T.out,U.out⟩
theorem zAC{w:World}{B g:Nat}{S:List Nd}{kb kc:Nat->Nat}(h:Own w B g S kb kc S.length):zlc w g (fun b=>b<B) S:=by
 obtain⟨h0,F,D,E,hg,_⟩:=h;exact⟨by omega,F,D,fun i hi=>⟨kb i,kc i,E i hi,by have:=hg i hi;omega,by have:=hg i hi;omega⟩⟩
theorem zAu{w V E F D O X:World}{R:Rl}{g gg z:Nat}{kb kc:Nat->Nat}(c0 c1 c2:Nat)(bV:Below w.heap.size w V)(b3:Below V.heap.size V E)(o3:Own E V.heap.size g R.s kb kc R.s.length)(Z:Below E.heap.size E F)(hr:F.heap[E.heap.size]?=some (.cells (hcL R.hs).toArray 61 (0,0)))
  (T:Below F.heap.size F D) (c5:St (fun b=>b<F.heap.size\/D.heap.size<=b) (fun V=>zaF V (some ⟨gg,0,none⟩) R.i) D) (J:Below D.heap.size D O) (tr:O.rowIs D.heap.size 3 R.t.length (zrE R)) (zl:z<V.heap.size) (M:zar (fun b=>b=z) O X) (bX:Below w.heap.size w X) :
  CI w R E.heap.size g ⟨some ⟨g,0,none⟩,some ⟨E.heap.size,0,none⟩,some ⟨gg,0,none⟩,some ⟨D.heap.size,0,none⟩,c0,c1,c2,R.t.length⟩ X:=by
 have hl:=zau hr;have tl:=tr.lt;have sV:=bV.size;have s3:=b3.size;have s4:=Z.size;have s5:=T.size;have s6:=J.size;have U:=zAC o3;have gl:=U.lt;have hg:=U.1;have oX:zlc X g (fun b=>b<V.heap.size\/b=E.heap.size\/b=D.heap.size) R.s:=((((U.grow (Y:=fun b=>b<V.heap.size\/b=E.heap.size\/b=D.heap.size) (fun b I hy=>by omega)).off (zar.of_below Z)).off (zar.of_below T)).off (zar.of_below J)).off (M.mono (fun b I=>Or.inl (by have:b=z:=I;omega)));refine⟨bX,by omega,(show w.heap.size<=D.heap.size by omega),(show D.heap.size≠E.heap.size by omega),rfl,rfl,rfl,rfl,zoe ?_,tr.of_block (M.block _ tl (by show ¬ D.heap.size=z;omega)),oX.grow (fun b _ hy=>?_),(St.off (X:=fun b=>b<F.heap.size\/D.heap.size<=b) (c5.off (zar.of_below J)) (M.mono (fun b I=>Or.inl (by have:b=z:=I;omega)))).less (fun b I=>?_)⟩
 ·exact(M.block _ (by omega) (by show ¬ E.heap.size=z;omega)).trans (zav (zav hr T) J)
 ·have:b<w.heap.size\/b=E.heap.size\/b=D.heap.size:=hy;omega
 ·have:b<w.heap.size\/b=E.heap.size\/b=D.heap.size\/b=g:=I;omega
theorem zkB(A:RA)(R:Rl)(w:World)(hR:zaE R=0)(hW:zdd w A R) :
  yL 73 #[rlV A R] w fun e w' => ∃ (B:RA) (h g:Nat),e=.returned (rlV B R)/\CI w R h g B w' := by
 obtain⟨a0,a1,a2,a3,c0,c1,c2,c3⟩:=A;obtain⟨wf,hl,b0,ht⟩:=zay hR;have d5:=zcA b0;obtain⟨w0,w1,w2,w3⟩:=hW;have D0:Hid (∀ W,Below w.heap.size w W->_):=fun W hW=>YtcbcpomacdngmaaGreat.copy_any a0 c0 R.s W wf.small (zdz wf) (w0.below hW);have D1:Hid (∀ W,Below w.heap.size w W->_):=fun W hW=>zxO a1 c1 R.hs.length (hcL R.hs) W (by omega) (zog _) (fun e=>by obtain⟨b,o,e2,_⟩:=w1 0 (by omega);rw[e] at e2;cases e2) (ztb (w1.below hW)) (zyl _);have D2:Hid (∀ W,Below w.heap.size w W->_):=fun W hW=>zht a2 c2 R.i W (by omega) (zkG b0) (w2.below hW);have D3:Hid (∀ W,Below w.heap.size w W->_):=fun W hW=>zfc a3 c3 R.t W (by omega) (w3.below hW);clear w0 w1 w2 w3 d5 b0 wf hR ht;have CC:Hid (∀ (V D M E T X:World) (g gg z:Nat) (kb kc:Nat->Nat),Below w.heap.size w V->Below V.heap.size V D->Own D V.heap.size g R.s kb kc R.s.length->Below D.heap.size D M->M.heap[D.heap.size]?=some (.cells (hcL R.hs).toArray 61 (0,0))->Below M.heap.size M E->St (fun b=>b<M.heap.size\/E.heap.size<=b) (fun V=>zaF V (some ⟨gg,0,none⟩) R.i) E->Below E.heap.size E T->T.rowIs E.heap.size 3 R.t.length (zrE R)->z<V.heap.size->zar (fun b=>b=z) T X->Below w.heap.size w X->CI w R D.heap.size g ⟨some ⟨g,0,none⟩,some ⟨D.heap.size,0,none⟩,some ⟨gg,0,none⟩,some ⟨E.heap.size,0,none⟩,R.s.length,R.hs.length,R.i.length,R.t.length⟩ X):=fun V D M E T X g gg z kb kc h1 h2 h3 h4 h5 h6 h7 h8 h9 c7 c8 c9=>zAu _ _ _ h1 h2 h3 h4 h5 h6 h7 h8 h9 c7 c8 c9;dsimp only[rlV];obtain⟨O,b6⟩:∃ n,R.s.length=n:=⟨_,rfl⟩;obtain⟨U,b4⟩:∃ n,R.hs.length=n:=⟨_,rfl⟩
 obtain⟨Z,b5⟩:∃ n,R.i.length=n:=⟨_,rfl⟩;obtain⟨nt,b7⟩:∃ n,R.t.length=n:=⟨_,rfl⟩;rw[b6] at D0 CC |-;rw[b4] at D1 CC |-;rw[b5] at D2 CC |-;rw[b7] at D3 CC |-;clear b6 b4 b5 b7 hl
 go_enter Tryz.func73,Tryz.ntmps73
 go_wp2_with fail
 obtain⟨V,hV⟩:∃ V,(w.alloc (.cells #[.slice a0 O c0,.slice a1 U c1,.slice a2 Z c2,.slice a3 nt c3] 50)).alloc (.cells #[.slice none 0 0,.slice none 0 0,.slice none 0 0,.slice none 0 0] 50)=V:=⟨_,rfl⟩;have XR:Hid (V.heap[w.heap.size]?=some (.cells #[.slice a0 O c0,.slice a1 U c1,.slice a2 Z c2,.slice a3 nt c3] 50 (0,0))):=by rw[<- hV];exact zav (zcd _ _ _ _ _ _) (zaa _ _)
 have XZ:Hid (V.heap[w.heap.size+1]?=some (.cells #[.slice none 0 0,.slice none 0 0,.slice none 0 0,.slice none 0 0] 50 (0,0))):=by
  rw[<- hV];have h:=zcd (w.alloc (.cells #[.slice a0 O c0,.slice a1 U c1,.slice a2 Z c2,.slice a3 nt c3] 50)) 50 (.slice none 0 0) (.slice none 0 0) (.slice none 0 0) (.slice none 0 0);rw[yr] at h;exact h
 have BV:Hid (Below w.heap.size w V):=by rw[<- hV];exact zam _ _ _
 rw[hV];clear hV;obtain⟨l0,l1,l2,l3,lf,ll⟩:=zai XR.out
 go_region_held3 (fun a8=>a8.cell? ⟨w.heap.size,0,none⟩=some (.slice a0 O c0)/\a8.cell? ⟨w.heap.size,1,none⟩=some (.slice a1 U c1)/\a8.cell? ⟨w.heap.size,2,none⟩=some (.slice a2 Z c2)/\a8.cell? ⟨w.heap.size,3,none⟩=some (.slice a3 nt c3)) (go_keep) (first
  |(go_at_call 102;refine ye (D0.out _ BV.out.drew) ?_;rintro e D ⟨g,kb,kc,rfl,b2,b8⟩;have B3:Hid (Below V.heap.size V D):=(yk _ _).drew.trans b2;have O3:Hid (Own D V.heap.size g R.s kb kc O):=b8;have a5:Hid (Below w.heap.size w D):=BV.out.trans (B3.out.mono BV.out.size);have q0:=zab l0 B3.out;have q1:=zab l1 B3.out;have q2:=zab l2 B3.out;have q3:=zab l3 B3.out;clear b2 b8)
  |(go_at_call 103;refine ye (D1.out _ a5.out) ?_;rintro e M ⟨rfl,F,b9⟩;have B4:Hid (Below D.heap.size D M):=F;have R4:Hid _:=b9;have a6:Hid (Below w.heap.size w M):=a5.out.trans (F.mono a5.out.size);have p0:=zab q0 F;have p1:=zab q1 F;have p2:=zab q2 F;have p3:=zab q3 F;clear F b9)
  |(go_at_call 104;refine ye (D2.out _ a6.out) ?_;rintro e E ⟨gg,rfl,I,d4,b3⟩;have B5:Hid (Below M.heap.size M E):=I;have C5:Hid _:=b3;have a7:Hid (Below w.heap.size w E):=a6.out.trans (I.mono a6.out.size);have r0:=zab p0 I;have r1:=zab p1 I;have r2:=zab p2 I;have r3:=zab p3 I;clear I b3 d4)
  |(go_at_call 85;refine ye (D3.out _ a7.out) ?_;rintro e T ⟨rfl,J,c6⟩;have B6:Hid (Below E.heap.size E T):=J;have T6:Hid _:=c6;have b1:Hid (Below w.heap.size w T):=a7.out.trans (J.mono a7.out.size);have u0:=zab r0 J;have u1:=zab r1 J;have u2:=zab r2 J;have u3:=zab r3 J;clear J c6;have a9:Hid _:=zav (zav (zav (zav XZ.out B3.out) B4.out) B5.out) B6.out;obtain⟨t0,t1,t2,t3,tf,tl⟩:=zai a9.out))
 clear t0 t1 t2 t3 tf tl u0 u1 u2 u3 r0 r1 r2 r3 p0 p1 p2 p3 q0 q1 q2 q3 l0 l1 l2 l3 lf ll;obtain⟨X,hX⟩:∃ X,(((T.setCell ⟨w.heap.size+1,0,none⟩ (.slice (some ⟨g,0,none⟩) O O)).setCell ⟨w.heap.size+1,1,none⟩ (.slice (some ⟨D.heap.size,0,none⟩) U U)).setCell ⟨w.heap.size+1,2,none⟩ (.slice (some ⟨gg,0,none⟩) Z Z)).setCell ⟨w.heap.size+1,3,none⟩ (.slice (some ⟨E.heap.size,0,none⟩) nt nt)=X:=⟨_,rfl⟩;have x0:X.heap[w.heap.size+1]?=some (.cells #[.slice (some ⟨g,0,none⟩) O O,.slice (some ⟨D.heap.size,0,none⟩) U U,.slice (some ⟨gg,0,none⟩) Z Z,.slice (some ⟨E.heap.size,0,none⟩) nt nt] 50 (0,0)):=by rw[<- hX];exact zcN a9.out
 have xo:zar (fun b=>b=w.heap.size+1) T X:=by
  rw[<- hX];exact(((zar.set (X:=fun b=>b=w.heap.size+1) _ _ rfl).trans (zar.set (X:=fun b=>b=w.heap.size+1) _ _ rfl)).trans (zar.set (X:=fun b=>b=w.heap.size+1) _ _ rfl)).trans (zar.set (X:=fun b=>b=w.heap.size+1) _ _ rfl)
 have xb:Below w.heap.size w X:=by
  rw[<- hX];exact(((b1.out.setCell (by simp) _).setCell (by simp) _).setCell (by simp) _).setCell (by simp) _
 rw[hX];clear hX;have C:Hid _:=CC.out V D M E T X g gg (w.heap.size+1) kb kc BV.out B3.out O3.out B4.out R4.out B5.out C5.out B6.out T6.out (zau XZ.out) xo xb;obtain⟨m0,m1,m2,m3,mf,ml⟩:=zai x0;clear xo xb x0 O3 B3 B4 B5 B6 C5 T6 R4 a9 XZ XR BV a5 a6 a7 b1 CC D0 D1 D2 D3
 go_wp2
 exact yv (v:=.agg #[.slice (some ⟨g,0,none⟩) O O,.slice (some ⟨D.heap.size,0,none⟩) U U,.slice (some ⟨gg,0,none⟩) Z Z,.slice (some ⟨E.heap.size,0,none⟩) nt nt]) (by simp[results,Tryz.results73,go_sem,m0,m1,m2,m3]) rfl ⟨_,_,_,rfl,C.out⟩
def zkp(R:Rl)(x:Ac)(q:Rs):Prop:=∀ W:World,yL 162 #[.int .i64 x.k] W fun e w' => ∃ (K:Nat) (D:Array Value),e=.returned (.func (.func K) #[] D)/\Below W.heap.size W w' /\(∀ args w,(callFunc K args).run Tryz.prog w=.ok (.enter K args) w)/\∀ E,Below w'.heap.size w' E->zme K D E R x q
theorem zaZ{W:World}{b t:Nat}{D v1 v2 E F:Value}(h:W.heap[b]?=some (.cells #[D,v1,v2,E,F] t (0,0))):W.cell? ⟨b,0,none⟩=some D/\W.cell? ⟨b,1,none⟩=some v1/\W.cell? ⟨b,2,none⟩=some v2/\W.cell? ⟨b,3,none⟩=some E/\W.cell? ⟨b,4,none⟩=some F/\b<W.heap.size :=
 ⟨by simp[World.cell?,h],by simp[World.cell?,h],by simp[World.cell?,h],by simp[World.cell?,h],by simp[World.cell?,h],zau h⟩
structure DoI (w:World) (A:RA) (R:Rl) (x:Ac) (V:World):Prop where
 bel:Below w.heap.size w V
 r:V.heap[w.heap.size]?=some (bxR A R)
 x:V.heap[w.heap.size+1]?=some (.cells #[.int .i64 x.k,.int .i64 x.a,.int .i64 x.b,.int .i64 x.c,.int .i64 x.n] 36 (0,0))
 z:V.heap[w.heap.size+1+1]?=some (.cells #[.slice none 0 0,.slice none 0 0,.slice none 0 0,.slice none 0 0] 50 (0,0))
 rl:zdd V A R
theorem DoI.below{w V E:World}{A:RA}{R:Rl}{x:Ac}(I:DoI w A R x V)(D:Below V.heap.size V E):DoI w A R x E:=⟨I.bel.trans (D.mono I.bel.size),zav I.r D,zav I.x D,zav I.z D,I.rl.below D⟩
theorem zgM(w:World)(A:RA)(R:Rl)(x:Ac)(h:zdd w A R):DoI w A R x (((w.alloc (.cells #[.slice A.a0 R.s.length A.c0,.slice A.a1 R.hs.length A.c1,.slice A.a2 R.i.length A.c2,.slice A.a3 R.t.length A.c3] 50)).alloc (.cells #[.int .i64 x.k,.int .i64 x.a,.int .i64 x.b,.int .i64 x.c,.int .i64 x.n] 36)).alloc (.cells #[.slice none 0 0,.slice none 0 0,.slice none 0 0,.slice none 0 0] 50)):=by
 have F:=zaa w (.cells #[.slice A.a0 R.s.length A.c0,.slice A.a1 R.hs.length A.c1,.slice A.a2 R.i.length A.c2,.slice A.a3 R.t.length A.c3] 50);obtain⟨w1,h1⟩:∃ w1,w.alloc (.cells #[.slice A.a0 R.s.length A.c0,.slice A.a1 R.hs.length A.c1,.slice A.a2 R.i.length A.c2,.slice A.a3 R.t.length A.c3] 50)=w1:=⟨_,rfl⟩;have O:=zcd w 50 (.slice A.a0 R.s.length A.c0) (.slice A.a1 R.hs.length A.c1) (.slice A.a2 R.i.length A.c2) (.slice A.a3 R.t.length A.c3);have s1:w1.heap.size=w.heap.size+1:=by rw[<- h1];simp
 rw[h1] at F O |-;have D:=zaa w1 (.cells #[.int .i64 x.k,.int .i64 x.a,.int .i64 x.b,.int .i64 x.c,.int .i64 x.n] 36);have J:=yK w1 (.cells #[.int .i64 x.k,.int .i64 x.a,.int .i64 x.b,.int .i64 x.c,.int .i64 x.n] 36);obtain⟨E,M⟩:∃ E,w1.alloc (.cells #[.int .i64 x.k,.int .i64 x.a,.int .i64 x.b,.int .i64 x.c,.int .i64 x.n] 36)=E:=⟨_,rfl⟩;have s2:E.heap.size=w1.heap.size+1:=by rw[<- M];simp
 rw[M] at D J |-;have I:=zaa E (.cells #[.slice none 0 0,.slice none 0 0,.slice none 0 0,.slice none 0 0] 50);have T:=zcd E 50 (.slice none 0 0) (.slice none 0 0) (.slice none 0 0) (.slice none 0 0);rw[s2,s1] at T;rw[s1] at J;exact⟨F.trans ((D.trans (I.mono D.size)).mono F.size),zav (zav O D) I,zav J I,T,((h.below F).below D).below I⟩
structure RlO (B:Nat) (V:World) (A:RA) (R:Rl):Prop where
 a3:A.a3=some ⟨tOf A,0,none⟩
 c3:A.c3=R.t.length
 t0:B<=tOf A
 tr:V.rowIs (tOf A) 3 R.t.length (zrE R)
 st:St (fun b=>b<B\/b=tOf A) (fun V=>zah V A.a0 R.s/\zaw V A.a1 R.hs/\zaF V A.a2 R.i) V
theorem RlO.at{B:Nat}{V:World}{A:RA}{R:Rl}(h:RlO B V A R):zdd V A R:=⟨h.st.at.1,h.st.at.2.1,h.st.at.2.2,by rw[h.a3];exact zgX h.tr⟩
theorem RlF.rlo{n B d:Nat}{V:World}{A:RA}{R:Rl}(h:RlF n d V A R)(hn:B<=n):RlO B V A R:=⟨h.a3,h.c3,yG hn h.t0,h.tr,h.st.less (fun b D=>by omega)⟩
theorem zxX(A:RA)(R:Rl)(x:Ac)(q:Rs)(w:World)(hR:zaE R=0)(hW:zdd w A R)(ha:isH x.a)(hD:zkp R x q) :
  yL 148 #[rlV A R,acV x] w fun e w' => ∃ B:RA,e=.returned (.tuple #[rlV B (if q.e=0 then q.r else zbL),.int .i64 (if q.e=0 then q.o else 0),.int .i64 q.e])/\Below w.heap.size w w' /\ zdd w' B (if q.e=0 then q.r else zbL)/\(q.e=0->RlO w.heap.size w' B (if q.e=0 then q.r else zbL)):=by
 have hl:=(zay hR).2.1;have D0:Hid (∀ W,zdd W A R->Calls _ _ _ _ _):=fun W hW=>zen A R W (zdU hR) hW;rw[hR] at D0;have D1:Hid (∀ W,Calls _ _ _ _ _):=fun W=>zcE A R x.a W hl;rw[show decide (isH x.a)=true from yF ha] at D1;have D2:Hid (zkp R x q):=hD;have D3:Hid (∀ W,zdd W A R->Calls _ _ _ _ _):=fun W hW=>zkB A R W hR hW;have I0:Hid _:=zgM w A R x hW;have b4:Hid (∀ (W V:World) (h g:Nat) (B:RA),CI W R h g B V->_):=fun W V h g B I=>CI.wi I;have b7:Hid (∀ (V V' : World) (B:RA) (n d:Nat),RlF n d V B q.r->w.heap.size<=n->zar (fun b=>b<n\/b=d) V V' -> RlO w.heap.size V' B q.r):=fun V V' B n d h1 h2 h3=>(h1.off h3).rlo h2;clear hW ha hD hR hl;obtain⟨xk,xa,xb,xc,xn⟩:=x;obtain⟨a0,a1,a2,a3,c0,c1,c2,c3⟩:=A;obtain⟨qe,D,qo⟩:=q;dsimp only[rlV,acV,zkp] at *;obtain⟨RR,a6⟩:∃ RR:Rl,(if qe=0 then D else zbL)=RR:=⟨_,rfl⟩;have J:Hid (_=RR):=a6;obtain⟨OO,a5⟩:∃ OO:Int,(if qe=0 then qo else 0)=OO:=⟨_,rfl⟩;have F:Hid (_=OO):=a5;rw[a6,a5];clear a6 a5
 go_enter Tryz.func148,Tryz.ntmps148
 go_wp2_with fail
 refine ye (D0.out _ I0.out.rl) ?_;rintro e V1 ⟨rfl,E⟩;have I1:Hid _:=I0.out.below E;clear E D0 I0;obtain⟨U,r1,r2,r3,Z,rl⟩:=zai I1.out.r;obtain⟨z0,z1,z2,z3,zf,zl⟩:=zai I1.out.z;obtain⟨y0,y1,y2,y3,y4,yl⟩:=zaZ I1.out.x
 go_wp2_with fail
 refine ye (D1.out _) ?_;rintro e V2 ⟨rfl,E⟩;have I2:Hid _:=I1.out.below E;clear U r1 r2 r3 Z rl z0 z1 z2 z3 zf zl y0 y1 y2 y3 y4 yl;clear E D1 I1;obtain⟨U,r1,r2,r3,Z,rl⟩:=zai I2.out.r;obtain⟨z0,z1,z2,z3,zf,zl⟩:=zai I2.out.z;obtain⟨y0,y1,y2,y3,y4,yl⟩:=zaZ I2.out.x
 go_wp2_with fail
 refine ye (D2.out _) ?_;rintro e V3 ⟨K,O,rfl,E,eg,b5⟩;have M:Hid _:=I2.out.below E;have ZL:Hid (w.heap.size+1+1<V3.heap.size):=zau M.out.z;have b8:∀ w:World,(binOp BinOp.eql 209 (Value.func (Fn.func K) #[] O) Value.nilFunc).run Tryz.prog w=.ok (.bool false) w:=fun _=>by kernel_rfl
 have HD:Hid (zme K O V3 R ⟨xk,xa,xb,xc,xn⟩ ⟨qe,D,qo⟩):=b5 V3 (yk _ _);clear U r1 r2 r3 Z rl z0 z1 z2 z3 zf zl y0 y1 y2 y3 y4 yl;clear E D2 I2 b5;obtain⟨U,r1,r2,r3,Z,rl⟩:=zai M.out.r;obtain⟨z0,z1,z2,z3,zf,zl⟩:=zai M.out.z;obtain⟨y0,y1,y2,y3,y4,yl⟩:=zaZ M.out.x
 go_wp2_with fail
 refine ye (D3.out _ M.out.rl) ?_;rintro e V4 ⟨⟨b0,b1,b2,b3,d0,d1,d2,d3⟩,h,g,rfl,a8⟩;have I4:Hid _:=M.out.below a8.bel;have W4:Hid _:=b4.out _ _ _ _ _ a8;clear U r1 r2 r3 Z rl z0 z1 z2 z3 zf zl y0 y1 y2 y3 y4 yl;clear D3 a8 b4;obtain⟨U,r1,r2,r3,Z,rl⟩:=zai I4.out.r;obtain⟨z0,z1,z2,z3,zf,zl⟩:=zai I4.out.z;obtain⟨y0,y1,y2,y3,y4,yl⟩:=zaZ I4.out.x
 go_wp2_with fail
 refine ye (HD.out _ _ _ _ _ W4.out) ?_;rintro e V5 ⟨o,rfl,E,hq⟩;have I5:Hid _:=M.out.below E;clear U r1 r2 r3 Z rl z0 z1 z2 z3 zf zl y0 y1 y2 y3 y4 yl;clear W4 I4 HD E M;obtain⟨U,r1,r2,r3,Z,rl⟩:=zai I5.out.r;obtain⟨z0,z1,z2,z3,zf,zl⟩:=zai I5.out.z;obtain⟨y0,y1,y2,y3,y4,yl⟩:=zaZ I5.out.x;by_cases hE:qe=0
 ·subst hE;obtain rfl:D=RR:=(yb rfl).symm.trans J.out;obtain rfl:qo=OO:=(yb rfl).symm.trans F.out;obtain⟨rfl,⟨e0,e1,e2,e3,f0,f1,f2,f3⟩,a7,a9⟩:=hq rfl;dsimp only at a7 a9;have b6:Hid _:=a9;obtain⟨s0,s1,s2,s3,sf,sl⟩:=zai a7;clear a7 hq a9 J F;dsimp only at s0 s1 s2 s3
  go_wp2
  obtain⟨X,T⟩:∃ X,(((V5.setCell ⟨w.heap.size+1+1,0,none⟩ (.slice e0 D.s.length f0)).setCell ⟨w.heap.size+1+1,1,none⟩ (.slice e1 D.hs.length f1)).setCell ⟨w.heap.size+1+1,2,none⟩ (.slice e2 D.i.length f2)).setCell ⟨w.heap.size+1+1,3,none⟩ (.slice e3 D.t.length f3)=X:=⟨_,rfl⟩;have x0:X.heap[w.heap.size+1+1]?=some (.cells #[.slice e0 D.s.length f0,.slice e1 D.hs.length f1,.slice e2 D.i.length f2,.slice e3 D.t.length f3] 50 (0,0)):=by rw[<- T];exact zcN I5.out.z
  have xb:Below w.heap.size w X:=by rw[<- T];exact(((I5.out.bel.setCell (by simp;omega) _).setCell (by simp;omega) _).setCell (by simp;omega) _).setCell (by simp;omega) _
  have xr:RlO w.heap.size X ⟨e0,e1,e2,e3,f0,f1,f2,f3⟩ D:=by rw[<- T];exact b7.out V5 _ _ _ _ b6.out (by have:=ZL.out;omega) ((((zar.set _ _ (Or.inl ZL.out)).trans (zar.set _ _ (Or.inl ZL.out))).trans (zar.set _ _ (Or.inl ZL.out))).trans (zar.set _ _ (Or.inl ZL.out)))
  rw[T];obtain⟨m0,m1,m2,m3,mf,ml⟩:=zai x0;exact yv (v:=.tuple #[.agg #[.slice e0 D.s.length f0,.slice e1 D.hs.length f1,.slice e2 D.i.length f2,.slice e3 D.t.length f3],.int .i64 o,.int .i64 0]) (by simp[results,Tryz.results148,go_sem,m0,m1,m2,m3]) rfl ⟨⟨e0,e1,e2,e3,f0,f1,f2,f3⟩,rfl,xb,xr.at,xr⟩
 ·obtain rfl:zbL=RR:=(ya hE).symm.trans J.out;obtain rfl:(0:Int)=OO:=(ya hE).symm.trans F.out;have hz:(qe == 0)=false:=by simp[hE]
  clear hq J F;dsimp only
  go_wp2
  obtain⟨X,T⟩:∃ X,(((V5.setCell ⟨w.heap.size+1+1,0,none⟩ (.slice none 0 0)).setCell ⟨w.heap.size+1+1,1,none⟩ (.slice none 0 0)).setCell ⟨w.heap.size+1+1,2,none⟩ (.slice none 0 0)).setCell ⟨w.heap.size+1+1,3,none⟩ (.slice none 0 0)=X:=⟨_,rfl⟩;have x0:X.heap[w.heap.size+1+1]?=some (.cells #[.slice none 0 0,.slice none 0 0,.slice none 0 0,.slice none 0 0] 50 (0,0)):=by rw[<- T];exact zcN I5.out.z
  have xb:Below w.heap.size w X:=by rw[<- T];exact(((I5.out.bel.setCell (by simp;omega) _).setCell (by simp;omega) _).setCell (by simp;omega) _).setCell (by simp;omega) _
  rw[T];obtain⟨m0,m1,m2,m3,mf,ml⟩:=zai x0;exact yv (v:=.tuple #[.agg #[.slice none 0 0,.slice none 0 0,.slice none 0 0,.slice none 0 0],.int .i64 0,.int .i64 qe]) (by simp[results,Tryz.results148,go_sem,m0,m1,m2,m3]) rfl ⟨⟨none,none,none,none,0,0,0,0⟩,rfl,xb,zjv _ _⟩
theorem zvW(w:World)(R:Rl)(x:Ac)(wf:WF R.s)(hl:R.hs.length=16)(ha:isH x.a)(b0:isH x.b)(b9:x.c<0):zme 177 #[] w R x (zdN R (hd R x.a) (hd R x.b) []):=fun d h g A V I=>by
 unfold zdN;rw[zlg];obtain⟨J,a5⟩:∃ l:List (Int × Int),[]=l:=⟨_,rfl⟩;have hm:J.length<=1:=by rw[<- a5];decide
 have h0:J.length=0:=by rw[<- a5];rfl
 rw[a5];obtain⟨a0,a1,a2,a3,c0,c1,c2,c3⟩:=A;obtain rfl:a0=some ⟨g,0,none⟩:=I.a0;obtain rfl:a1=some ⟨h,0,none⟩:=I.a1;obtain⟨xk,xa,xb,xc,xn⟩:=x;obtain⟨p,hp,c6⟩:=zmh ha;dsimp only at hp;subst hp;obtain⟨u0,u1⟩:=I.hand (k:=p) (by omega);obtain⟨r,hr,c7⟩:=zmh b0;dsimp only at hr;subst hr;obtain⟨v0,v1⟩:=I.hand (k:=r) (by omega);have II:Hid (WI w R d h g _ V):=I;obtain⟨l0,l1,l2,l3,fz,lt⟩:=zai I.box;dsimp only at l0 l1 l2 l3;rw[hl] at l1;have d4:d<V.heap.size:=lt;have d5:h<V.heap.size:=yd _ _ u0;have d6:(p:Int)<16:=by omega
 have d7:(r:Int)<16:=by omega
 show yL _ #[.pointer (some ⟨d,0,none⟩),.agg #[.int .i64 xk,.int .i64 p,.int .i64 r,.int .i64 xc,.int .i64 xn]] V _;obtain⟨ns,a9⟩:∃ n,R.s.length=n:=⟨_,rfl⟩;have c8:Hid (R.s.length=ns):=a9;have D:Hid (∀ (ha:Option Addr) (hc:Nat) W,Below V.heap.size V W->zaw W ha J->yL 192 #[.agg #[.slice (some ⟨g,0,none⟩) R.s.length c0],.agg #[.int .i64 (hd R (p:Int)).1,.int .i64 (hd R (p:Int)).2],.agg #[.int .i64 (hd R (r:Int)).1,.int .i64 (hd R (r:Int)).2],.slice ha J.length hc] W fun e w' => ∃ a' c', e=.returned (.tuple #[.agg #[.slice a' (rS (zjS R.s (hd R (p:Int)).1 (hd R (p:Int)).2 (hd R (r:Int)).1 (hd R (r:Int)).2 J) (zpm R.s (hd R (p:Int)).1 (hd R (r:Int)).1 J)).length c'],.int .i64 (zjS R.s (hd R (p:Int)).1 (hd R (p:Int)).2 (hd R (r:Int)).1 (hd R (r:Int)).2 J)])/\Below W.heap.size W w' /\ St (fun b=>b<W.heap.size) (fun V=>zah V a' (rS (zjS R.s (hd R (p:Int)).1 (hd R (p:Int)).2 (hd R (r:Int)).1 (hd R (r:Int)).2 J) (zpm R.s (hd R (p:Int)).1 (hd R (r:Int)).1 J))) w'):=fun ha hc W hW hH=>zkH R.s _ _ J ha hc wf hm (some ⟨g,0,none⟩) c0 W (I.nds.below hW) hH;clear ha b0 hl;generalize hd R (p:Int)=hA at *;obtain⟨P,U⟩:=hA;generalize hd R (r:Int)=hB at *;obtain⟨P2,U2⟩:=hB;dsimp only at u0 u1 v0 v1 D |-;obtain⟨E,hE⟩:∃ E,zjS R.s P U P2 U2 J=E:=⟨_,rfl⟩;obtain⟨T,hT⟩:∃ T,zpm R.s P P2 J=T:=⟨_,rfl⟩;rw[hE,hT] at D;rw[hE,hT];clear hE hT;rw[a9] at D l0;clear a9 I hm;have HH:Hid (∀ W:World,zaw W none J):=fun W i hi=>by omega
 rw[h0] at D;clear h0 a5;dsimp only at b9
 go_enter Tryz.func177,Tryz.ntmps177
 go_upto_region 6 with fail
 obtain⟨F,O⟩:∃ F,V.alloc (.cells #[.int .i64 xk,.int .i64 p,.int .i64 r,.int .i64 xc,.int .i64 xn] 36)=F:=⟨_,rfl⟩;have BV:Hid (Below V.heap.size V F):=by rw[<- O];exact zaa _ _
 have y0:F.cell? ⟨V.heap.size,0,none⟩=some (.int .i64 xk):=by rw[<- O];exact zad _ _ _ 0 rfl
 have y1:F.cell? ⟨V.heap.size,1,none⟩=some (.int .i64 p):=by rw[<- O];exact zad _ _ _ 1 rfl
 have y2:F.cell? ⟨V.heap.size,2,none⟩=some (.int .i64 r):=by rw[<- O];exact zad _ _ _ 2 rfl
 have y3:F.cell? ⟨V.heap.size,3,none⟩=some (.int .i64 xc):=by rw[<- O];exact zad _ _ _ 3 rfl
 have y4:F.cell? ⟨V.heap.size,4,none⟩=some (.int .i64 xn):=by rw[<- O];exact zad _ _ _ 4 rfl
 have sV:V.heap.size<F.heap.size:=yd _ _ y0;rw[O];clear O;replace u0:=zab u0 BV.out;replace u1:=zab u1 BV.out;replace l0:=zab l0 BV.out;replace l1:=zab l1 BV.out;replace l2:=zab l2 BV.out;replace l3:=zab l3 BV.out;have n0:¬ F.heap.size=d:=by omega
 have o0:¬ d=F.heap.size:=by omega
 have n1:¬ F.heap.size=h:=by omega
 have o1:¬ h=F.heap.size:=by omega
 have n2:¬ F.heap.size=V.heap.size:=by omega
 have o2:¬ V.heap.size=F.heap.size:=by omega
 have d8:d<F.heap.size:=by omega
 have d9:h<F.heap.size:=by omega
 clear fz lt;replace v0:=zab v0 BV.out;replace v1:=zab v1 BV.out
 go_cut [7,8] (fun s7 s8 wx=>∃ (b:Nat) (a' : Option Addr) (c' : Nat),s7=.pointer (some ⟨b,0,none⟩)/\s8=.int .i64 E/\Hid (Below F.heap.size F wx)/\Hid (St (fun b=>b<F.heap.size) (fun V=>zah V a' (rS E T)) wx)/\wx.cell? ⟨b,0,none⟩=some (.slice a' (rS E T).length c')/\F.heap.size<=b)
 case first =>
  go_region_held3 (fun Z=>Z.cell? ⟨d,0,none⟩=some (.slice (some ⟨g,0,none⟩) ns c0)/\Z.cell? ⟨d,1,none⟩=some (.slice (some ⟨h,0,none⟩) 16 c1)/\Z.cell? ⟨h,p*2,none⟩=some (.int .i64 P)/\Z.cell? ⟨h,p*2+1,none⟩=some (.int .i64 U)/\Z.cell? ⟨h,r*2,none⟩=some (.int .i64 P2)/\Z.cell? ⟨h,r*2+1,none⟩=some (.int .i64 U2)/\Z.cell? ⟨V.heap.size,1,none⟩=some (.int .i64 p)/\Z.cell? ⟨V.heap.size,2,none⟩=some (.int .i64 r)) (go_keep) (first|(go_at_call 192;refine ye (D.out none 0 F.drew BV.out.drew ((HH.out F).below (yk _ _).drew)) ?_;rintro e w3 ⟨a', c', rfl,a6,a7⟩;have M:Hid (Below F.heap.size F w3):=(yk _ _).drew.trans a6;have N3:Hid (St (fun b=>b<F.heap.size) (fun V=>zah V a' (rS E T)) w3):=a7;have b1:=zab l0 M.out;have b2:=zab l1 M.out;have b3:=zab u0 M.out;have b4:=zab u1 M.out;have b5:=zab v0 M.out;have b6:=zab v1 M.out;have b7:=zab y1 M.out;have b8:=zab y2 M.out;clear a6 a7)|(go_at_call 192;refine ye (D.out none 0 (F.alloc (.cells #[.slice none 0 0] 43)).drew (BV.out.trans ((zaa F _).mono BV.out.size)).drew ((HH.out F).below (zaa F _).drew)) ?_;rintro e w3 ⟨a', c', rfl,a6,a7⟩;have M:Hid (Below F.heap.size F w3):=(zaa F _).drew.trans (a6.mono (by simp));have N3:Hid (St (fun b=>b<F.heap.size+1) (fun V=>zah V a' (rS E T)) w3):=(by have h:=a7;simp only[yr,World.size_drew] at h;exact h);have b1:=zab l0 M.out;have b2:=zab l1 M.out;have b3:=zab u0 M.out;have b4:=zab u1 M.out;have b5:=zab v0 M.out;have b6:=zab v1 M.out;have b7:=zab y1 M.out;have b8:=zab y2 M.out;have X3:Hid (w3.heap[F.heap.size]?=some (.cells #[.slice none 0 0] 43 (0,0))):=zav (W:=(F.alloc (.cells #[.slice none 0 0] 43)).drew) (yK F _) a6;have x3:=zaI X3.out;have xf:=zaY (o:=0) X3.out;have xl:F.heap.size<w3.heap.size:=zau X3.out;clear a6 a7))
  ·go_wp2_with fail
   go_meet
   case rel=>exact⟨_,_,_,rfl,rfl,zAD _ _ (yk F.heap.size F) M.out N3.out⟩
  ·go_wp2_with fail
   go_meet
   case rel=>exact⟨_,_,_,rfl,rfl,zAE _ (yk F.heap.size F) M.out N3.out X3.out⟩
 case rest =>
  obtain⟨b,a', c', rfl,rfl,HB,HN,a8,c9⟩:=hcut;have I2:Hid _:=II.out.below (BV.out.trans (HB.out.mono BV.out.size));have HS:Hid _:=I2.out.store c' HN.out (by have h1:=II.out.base;have h2:=BV.out.size;omega);obtain⟨m0,m1,m2,m3,mf,ml⟩:=zai I2.out.box;have bl:b<wc.heap.size:=yd _ _ a8;have e0:¬ b=d:=by omega
  clear II D u0 u1 v0 v1 l0 l1 y1 y2
  go_wp2
  refine yv (v:=.tuple #[.int .i64 0,.int .i64 E]) (by simp[results,Tryz.results177,go_sem]) rfl ⟨0,rfl,HS.out.1,fun hE=>?_⟩;rw[zlf hE];have h2:=HS.out.2;rw[hE,zhM] at h2;rw[hE,zhM];exact⟨rfl,_,h2⟩
theorem zti(w:World)(R:Rl)(x:Ac)(wf:WF R.s)(hl:R.hs.length=16)(ha:isH x.a)(a6:isH x.b)(a7:¬ x.c<0)(a8:¬ isH x.c):zme 177 #[] w R x (bad 4):=fun d h g A V I=>by
 rw[(znL 4).2.2];obtain⟨a0,a1,a2,a3,c0,c1,c2,c3⟩:=A;obtain rfl:a0=some ⟨g,0,none⟩:=I.a0;obtain rfl:a1=some ⟨h,0,none⟩:=I.a1;obtain⟨xk,xa,xb,Z,xn⟩:=x;obtain⟨p,hp,a9⟩:=zmh ha;dsimp only at hp;subst hp;obtain⟨u0,u1⟩:=I.hand (k:=p) (by omega);obtain⟨r,hr,b0⟩:=zmh a6;dsimp only at hr;subst hr;obtain⟨v0,v1⟩:=I.hand (k:=r) (by omega);have II:Hid (WI w R d h g _ V):=I;obtain⟨l0,l1,l2,l3,fz,lt⟩:=zai I.box;dsimp only at l0 l1 l2 l3;rw[hl] at l1;have b8:d<V.heap.size:=lt;have b9:h<V.heap.size:=yd _ _ u0;have c6:(p:Int)<16:=by omega
 have c7:(r:Int)<16:=by omega
 show yL _ #[.pointer (some ⟨d,0,none⟩),.agg #[.int .i64 xk,.int .i64 p,.int .i64 r,.int .i64 Z,.int .i64 xn]] V _;obtain⟨ns,J⟩:∃ n,R.s.length=n:=⟨_,rfl⟩;have b1:Hid (R.s.length=ns):=J;have DH:Hid (∀ W,Calls _ _ _ _ _):=fun W=>zcE ⟨some ⟨g,0,none⟩,some ⟨h,0,none⟩,a2,a3,c0,c1,c2,c3⟩ R Z W hl;dsimp only[rlV] at DH;rw[hl] at DH;rw[yE a8] at DH;obtain⟨ni,M⟩:∃ n,R.i.length=n:=⟨_,rfl⟩;obtain⟨nt,O⟩:∃ n,R.t.length=n:=⟨_,rfl⟩;rw[J,M,O] at DH;rw[M] at l2;rw[O] at l3;clear M O;rw[J] at l0;dsimp only at a7;have b7:0<=Z:=by omega
 clear ha a6 hl J I a8 a7 u0 u1 v0 v1 wf
 go_enter Tryz.func177,Tryz.ntmps177
 go_upto_region 3 with fail
 obtain⟨D,E⟩:∃ D,V.alloc (.cells #[.int .i64 xk,.int .i64 p,.int .i64 r,.int .i64 Z,.int .i64 xn] 36)=D:=⟨_,rfl⟩;have U:Hid (Below V.heap.size V D):=by rw[<- E];exact zaa _ _
 have y0:D.cell? ⟨V.heap.size,0,none⟩=some (.int .i64 xk):=by rw[<- E];exact zad _ _ _ 0 rfl
 have y1:D.cell? ⟨V.heap.size,1,none⟩=some (.int .i64 p):=by rw[<- E];exact zad _ _ _ 1 rfl
 have y2:D.cell? ⟨V.heap.size,2,none⟩=some (.int .i64 r):=by rw[<- E];exact zad _ _ _ 2 rfl
 have y3:D.cell? ⟨V.heap.size,3,none⟩=some (.int .i64 Z):=by rw[<- E];exact zad _ _ _ 3 rfl
 have y4:D.cell? ⟨V.heap.size,4,none⟩=some (.int .i64 xn):=by rw[<- E];exact zad _ _ _ 4 rfl
 have sV:V.heap.size<D.heap.size:=yd _ _ y0;rw[E];clear E;replace l0:=zab l0 U.out;replace l1:=zab l1 U.out;replace l2:=zab l2 U.out;replace l3:=zab l3 U.out;have n0:¬ D.heap.size=d:=by omega
 have o0:¬ d=D.heap.size:=by omega
 have n1:¬ D.heap.size=h:=by omega
 have o1:¬ h=D.heap.size:=by omega
 have n2:¬ D.heap.size=V.heap.size:=by omega
 have o2:¬ V.heap.size=D.heap.size:=by omega
 have c8:d<D.heap.size:=by omega
 have c9:h<D.heap.size:=by omega
 clear fz lt
 go_region_held3 (fun F=>F.cell? ⟨d,0,none⟩=some (.slice (some ⟨g,0,none⟩) ns c0)/\F.cell? ⟨d,1,none⟩=some (.slice (some ⟨h,0,none⟩) 16 c1)/\F.cell? ⟨d,2,none⟩=some (.slice a2 ni c2)/\F.cell? ⟨d,3,none⟩=some (.slice a3 nt c3)/\F.cell? ⟨V.heap.size,3,none⟩=some (.int .i64 Z)) (go_keep) (first|(go_at_call 161;refine ye (DH.out D.drew) ?_;rintro e w2 ⟨rfl,a5⟩;have T:Hid (Below D.heap.size D w2):=(yk _ _).drew.trans a5;have b2:=zab l0 T.out;have b3:=zab l1 T.out;have b4:=zab l2 T.out;have b5:=zab l3 T.out;have b6:=zab y3 T.out;clear a5))
 have I2:Hid _:=II.out.below (U.out.trans (T.out.mono U.out.size))
 go_wp2
 refine yv (v:=.tuple #[.int .i64 0,.int .i64 4]) (by simp[results,Tryz.results177,go_sem]) rfl ?_
 first|exact⟨0,rfl,I2.out.bel,fun hE=>absurd hE (by decide)⟩|exact⟨⟨0,rfl⟩,I2.out.bel⟩
theorem zqB{W:World}{b:Nat}{x y:Int}(h0:W.cell? ⟨b,0,none⟩=some (.int .i64 x))(h1:W.cell? ⟨b,1,none⟩=some (.int .i64 y)):zaw W (some ⟨b,0,none⟩) [(x,y)]:=fun i hi=>by
 obtain rfl:i=0:=by simpa using hi
 exact⟨b,0,rfl,h0,h1⟩
theorem zvX(w:World)(R:Rl)(x:Ac)(wf:WF R.s)(hl:R.hs.length=16)(ha:isH x.a)(c6:isH x.b)(b4:isH x.c):zme 177 #[] w R x (zdN R (hd R x.a) (hd R x.b) [hd R x.c]):=fun d h g A V I=>by
 unfold zdN;rw[zlg];obtain⟨M,Z⟩:∃ l:List (Int × Int),[hd R x.c]=l:=⟨_,rfl⟩;have hm:M.length<=1:=by rw[<- Z];simp
 have h0:M.length=1:=by rw[<- Z];rfl
 rw[Z];obtain⟨a0,a1,a2,a3,c0,c1,c2,c3⟩:=A;obtain rfl:a0=some ⟨g,0,none⟩:=I.a0;obtain rfl:a1=some ⟨h,0,none⟩:=I.a1;obtain⟨xk,xa,xb,xc,xn⟩:=x;obtain⟨p,hp,e8⟩:=zmh ha;dsimp only at hp;subst hp;obtain⟨u0,u1⟩:=I.hand (k:=p) (by omega);obtain⟨r,hr,e9⟩:=zmh c6;dsimp only at hr;subst hr;obtain⟨v0,v1⟩:=I.hand (k:=r) (by omega);have II:Hid (WI w R d h g _ V):=I;obtain⟨l0,l1,l2,l3,fz,lt⟩:=zai I.box;dsimp only at l0 l1 l2 l3;rw[hl] at l1;have g9:d<V.heap.size:=lt;have h3:h<V.heap.size:=yd _ _ u0;have h4:(p:Int)<16:=by omega
 have h6:(r:Int)<16:=by omega
 obtain⟨s,hs,g0⟩:=zmh b4;dsimp only at hs;subst hs;dsimp only at Z;have b8:decide (isH (s:Int))=true:=yF b4;obtain⟨t0,t1⟩:=I.hand (k:=s) (by omega);have h7:(s:Int)<16:=by omega
 show yL _ #[.pointer (some ⟨d,0,none⟩),.agg #[.int .i64 xk,.int .i64 p,.int .i64 r,.int .i64 s,.int .i64 xn]] V _;obtain⟨ns,b0⟩:∃ n,R.s.length=n:=⟨_,rfl⟩;have g7:Hid (R.s.length=ns):=b0;have D:Hid (∀ (ha:Option Addr) (hc:Nat) W,Below V.heap.size V W->zaw W ha M->yL 192 #[.agg #[.slice (some ⟨g,0,none⟩) R.s.length c0],.agg #[.int .i64 (hd R (p:Int)).1,.int .i64 (hd R (p:Int)).2],.agg #[.int .i64 (hd R (r:Int)).1,.int .i64 (hd R (r:Int)).2],.slice ha M.length hc] W fun e w' => ∃ a' c', e=.returned (.tuple #[.agg #[.slice a' (rS (zjS R.s (hd R (p:Int)).1 (hd R (p:Int)).2 (hd R (r:Int)).1 (hd R (r:Int)).2 M) (zpm R.s (hd R (p:Int)).1 (hd R (r:Int)).1 M)).length c'],.int .i64 (zjS R.s (hd R (p:Int)).1 (hd R (p:Int)).2 (hd R (r:Int)).1 (hd R (r:Int)).2 M)])/\Below W.heap.size W w' /\ St (fun b=>b<W.heap.size) (fun V=>zah V a' (rS (zjS R.s (hd R (p:Int)).1 (hd R (p:Int)).2 (hd R (r:Int)).1 (hd R (r:Int)).2 M) (zpm R.s (hd R (p:Int)).1 (hd R (r:Int)).1 M))) w'):=fun ha hc W hW hH=>zkH R.s _ _ M ha hc wf hm (some ⟨g,0,none⟩) c0 W (I.nds.below hW) hH;have DH:Hid (∀ W,Calls _ _ _ _ _):=fun W=>zcE ⟨some ⟨g,0,none⟩,some ⟨h,0,none⟩,a2,a3,c0,c1,c2,c3⟩ R (s:Int) W hl;dsimp only[rlV] at DH;rw[hl] at DH;rw[b8] at DH;obtain⟨ni,b5⟩:∃ n,R.i.length=n:=⟨_,rfl⟩;obtain⟨nt,b6⟩:∃ n,R.t.length=n:=⟨_,rfl⟩;rw[b0,b5,b6] at DH;rw[b5] at l2;rw[b6] at l3;clear b5 b6;have HH:Hid ([hd R (s:Int)]=M):=Z;clear b4 b8 Z;clear ha c6 hl;generalize hd R (p:Int)=hA at *;obtain⟨P,U⟩:=hA;generalize hd R (r:Int)=hB at *
 obtain⟨P2,U2⟩:=hB;dsimp only at u0 u1 v0 v1 D |-;obtain⟨E,hE⟩:∃ E,zjS R.s P U P2 U2 M=E:=⟨_,rfl⟩;obtain⟨T,hT⟩:∃ T,zpm R.s P P2 M=T:=⟨_,rfl⟩;rw[hE,hT] at D;rw[hE,hT];clear hE hT;rw[b0] at D l0;clear b0 I hm;rw[h0] at D;clear h0;generalize hd R (s:Int)=hC at *;obtain⟨P3,U3⟩:=hC;dsimp only at t0 t1
 go_enter Tryz.func177,Tryz.ntmps177
 go_upto_region 3 with fail
 obtain⟨O,a5⟩:∃ O,V.alloc (.cells #[.int .i64 xk,.int .i64 p,.int .i64 r,.int .i64 s,.int .i64 xn] 36)=O:=⟨_,rfl⟩;have BV:Hid (Below V.heap.size V O):=by rw[<- a5];exact zaa _ _
 have y0:O.cell? ⟨V.heap.size,0,none⟩=some (.int .i64 xk):=by rw[<- a5];exact zad _ _ _ 0 rfl
 have y1:O.cell? ⟨V.heap.size,1,none⟩=some (.int .i64 p):=by rw[<- a5];exact zad _ _ _ 1 rfl
 have y2:O.cell? ⟨V.heap.size,2,none⟩=some (.int .i64 r):=by rw[<- a5];exact zad _ _ _ 2 rfl
 have y3:O.cell? ⟨V.heap.size,3,none⟩=some (.int .i64 s):=by rw[<- a5];exact zad _ _ _ 3 rfl
 have y4:O.cell? ⟨V.heap.size,4,none⟩=some (.int .i64 xn):=by rw[<- a5];exact zad _ _ _ 4 rfl
 have sV:V.heap.size<O.heap.size:=yd _ _ y0;rw[a5];clear a5;replace u0:=zab u0 BV.out;replace u1:=zab u1 BV.out;replace l0:=zab l0 BV.out;replace l1:=zab l1 BV.out;replace l2:=zab l2 BV.out;replace l3:=zab l3 BV.out;have n0:¬ O.heap.size=d:=by omega
 have o0:¬ d=O.heap.size:=by omega
 have n1:¬ O.heap.size=h:=by omega
 have o1:¬ h=O.heap.size:=by omega
 have n2:¬ O.heap.size=V.heap.size:=by omega
 have o2:¬ V.heap.size=O.heap.size:=by omega
 have c7:d<O.heap.size:=by omega
 have c8:h<O.heap.size:=by omega
 clear fz lt;replace v0:=zab v0 BV.out;replace v1:=zab v1 BV.out;replace t0:=zab t0 BV.out;replace t1:=zab t1 BV.out
 go_region_held3 (fun F=>F.cell? ⟨d,0,none⟩=some (.slice (some ⟨g,0,none⟩) ns c0)/\F.cell? ⟨d,1,none⟩=some (.slice (some ⟨h,0,none⟩) 16 c1)/\F.cell? ⟨d,2,none⟩=some (.slice a2 ni c2)/\F.cell? ⟨d,3,none⟩=some (.slice a3 nt c3)/\F.cell? ⟨V.heap.size,3,none⟩=some (.int .i64 s)) (go_keep) (first|(go_at_call 161;refine ye (DH.out O.drew) ?_;rintro e w2 ⟨rfl,b9⟩;have B2:Hid (Below O.heap.size O w2):=(yk _ _).drew.trans b9;have b1:=zab l0 B2.out;have b2:=zab l1 B2.out;have c9:=zab l2 B2.out;have d4:=zab l3 B2.out;have e7:=zab y3 B2.out;clear b9))
 clear b1 b2 c9 d4 e7;replace l0:=zab l0 B2.out;replace l1:=zab l1 B2.out;replace u0:=zab u0 B2.out;replace u1:=zab u1 B2.out;replace v0:=zab v0 B2.out;replace v1:=zab v1 B2.out;replace t0:=zab t0 B2.out;replace t1:=zab t1 B2.out;replace y1:=zab y1 B2.out;replace y2:=zab y2 B2.out;replace y3:=zab y3 B2.out;have b7:Hid (Below V.heap.size V w2):=BV.out.trans (B2.out.mono BV.out.size);have s2:=B2.out.size;have g4:d<w2.heap.size:=by omega
 have g5:h<w2.heap.size:=by omega
 have g6:V.heap.size<w2.heap.size:=by omega
 have e0:¬ w2.heap.size=d:=by omega
 have e1:¬ w2.heap.size=h:=by omega
 have e2:¬ w2.heap.size=V.heap.size:=by omega
 have e3:¬ d=w2.heap.size:=by omega
 have e4:¬ h=w2.heap.size:=by omega
 have e5:¬ V.heap.size=w2.heap.size:=by omega
 clear n0 n1 n2 o0 o1 o2 c7 c8 B2 BV l2 l3 y0 y4 DH sV
 go_wp2_with fail
 go_region_held3 (fun F=>F.cell? ⟨d,1,none⟩=some (.slice (some ⟨h,0,none⟩) 16 c1)/\F.cell? ⟨h,s*2,none⟩=some (.int .i64 P3)/\F.cell? ⟨h,s*2+1,none⟩=some (.int .i64 U3)/\F.cell? ⟨V.heap.size,3,none⟩=some (.int .i64 s)) (go_keep) (fail)
 go_upto_region 6 with fail
 obtain⟨J,a9⟩:∃ J,(w2.alloc (.cells #[.int .i64 P3,.int .i64 U3] 61)).drew=J:=⟨_,rfl⟩;have B4:Hid (Below w2.heap.size w2 J):=by rw[<- a9];exact(zaa _ _).drew
 have a6:Hid (Below V.heap.size V J):=b7.out.trans (B4.out.mono b7.out.size);have X4:Hid (J.heap[w2.heap.size]?=some (.cells #[.int .i64 P3,.int .i64 U3] 61 (0,0))):=by rw[<- a9];exact yK w2 _
 rw[a9];clear a9;obtain⟨j0,j1,jl⟩:=zbg X4.out;have H4:Hid (zaw J (some ⟨w2.heap.size,0,none⟩) M):=by rw[<- HH.out];exact zqB j0 j1
 have s4:=B4.out.size;replace l0:=zab l0 B4.out;replace l1:=zab l1 B4.out;replace u0:=zab u0 B4.out;replace u1:=zab u1 B4.out;replace v0:=zab v0 B4.out;replace v1:=zab v1 B4.out;replace y1:=zab y1 B4.out;replace y2:=zab y2 B4.out;clear t0 t1 y3 j0 j1 e0 e1 e2 e3 e4 e5;have c7:d<J.heap.size:=by omega
 have c8:h<J.heap.size:=by omega
 have h8:V.heap.size<J.heap.size:=by omega
 have n0:¬ J.heap.size=d:=by omega
 have n1:¬ J.heap.size=h:=by omega
 have n2:¬ J.heap.size=V.heap.size:=by omega
 have o0:¬ d=J.heap.size:=by omega
 have o1:¬ h=J.heap.size:=by omega
 have o2:¬ V.heap.size=J.heap.size:=by omega
 go_cut [7,8] (fun s7 s8 wx=>∃ (b:Nat) (a' : Option Addr) (c' : Nat),s7=.pointer (some ⟨b,0,none⟩)/\s8=.int .i64 E/\Hid (Below J.heap.size J wx)/\Hid (St (fun b=>b<J.heap.size) (fun V=>zah V a' (rS E T)) wx)/\wx.cell? ⟨b,0,none⟩=some (.slice a' (rS E T).length c')/\J.heap.size<=b)
 case first =>
  go_region_held3 (fun F=>F.cell? ⟨d,0,none⟩=some (.slice (some ⟨g,0,none⟩) ns c0)/\F.cell? ⟨d,1,none⟩=some (.slice (some ⟨h,0,none⟩) 16 c1)/\F.cell? ⟨h,p*2,none⟩=some (.int .i64 P)/\F.cell? ⟨h,p*2+1,none⟩=some (.int .i64 U)/\F.cell? ⟨h,r*2,none⟩=some (.int .i64 P2)/\F.cell? ⟨h,r*2+1,none⟩=some (.int .i64 U2)/\F.cell? ⟨V.heap.size,1,none⟩=some (.int .i64 p)/\F.cell? ⟨V.heap.size,2,none⟩=some (.int .i64 r)) (go_keep) (first|(go_at_call 192;refine ye (D.out (some ⟨w2.heap.size,0,none⟩) 1 J.drew a6.out.drew (H4.out.below (yk _ _).drew)) ?_;rintro e w3 ⟨a', c', rfl,a7,a8⟩;have B3:Hid (Below J.heap.size J w3):=(yk _ _).drew.trans a7;have N3:Hid (St (fun b=>b<J.heap.size) (fun V=>zah V a' (rS E T)) w3):=a8;have b1:=zab l0 B3.out;have b2:=zab l1 B3.out;have d5:=zab u0 B3.out;have d6:=zab u1 B3.out;have d7:=zab v0 B3.out;have d8:=zab v1 B3.out;have d9:=zab y1 B3.out;have e6:=zab y2 B3.out;clear a7 a8)|(go_at_call 192;refine ye (D.out (some ⟨w2.heap.size,0,none⟩) 1 (J.alloc (.cells #[.slice none 0 0] 43)).drew (a6.out.trans ((zaa J _).mono a6.out.size)).drew (H4.out.below (zaa J _).drew)) ?_;rintro e w3 ⟨a', c', rfl,a7,a8⟩;have B3:Hid (Below J.heap.size J w3):=(zaa J _).drew.trans (a7.mono (by simp));have N3:Hid (St (fun b=>b<J.heap.size+1) (fun V=>zah V a' (rS E T)) w3):=(by have h:=a8;simp only[yr,World.size_drew] at h;exact h);have b1:=zab l0 B3.out;have b2:=zab l1 B3.out;have d5:=zab u0 B3.out;have d6:=zab u1 B3.out;have d7:=zab v0 B3.out;have d8:=zab v1 B3.out;have d9:=zab y1 B3.out;have e6:=zab y2 B3.out;have X3:Hid (w3.heap[J.heap.size]?=some (.cells #[.slice none 0 0] 43 (0,0))):=zav (W:=(J.alloc (.cells #[.slice none 0 0] 43)).drew) (yK J _) a7;have x3:=zaI X3.out;have xf:=zaY (o:=0) X3.out;have xl:J.heap.size<w3.heap.size:=zau X3.out;clear a7 a8))
  ·go_wp2_with fail
   go_meet
   case rel=>exact⟨_,_,_,rfl,rfl,zAD _ _ (yk J.heap.size J) B3.out N3.out⟩
  ·go_wp2_with fail
   go_meet
   case rel=>exact⟨_,_,_,rfl,rfl,zAE _ (yk J.heap.size J) B3.out N3.out X3.out⟩
 case rest =>
  obtain⟨b,a', c', rfl,rfl,HB,HN,b3,g8⟩:=hcut;have I2:Hid _:=II.out.below (a6.out.trans (HB.out.mono a6.out.size));have HS:Hid _:=I2.out.store c' HN.out (by have h1:=II.out.base;have h2:=a6.out.size;omega);obtain⟨m0,m1,m2,m3,mf,ml⟩:=zai I2.out.box;have bl:b<wc.heap.size:=yd _ _ b3;have h9:¬ b=d:=by omega
  clear II D u0 u1 v0 v1 l0 l1 y1 y2
  go_wp2
  refine yv (v:=.tuple #[.int .i64 0,.int .i64 E]) (by simp[results,Tryz.results177,go_sem]) rfl ⟨0,rfl,HS.out.1,fun hE=>?_⟩;rw[zlf hE];have h2:=HS.out.2;rw[hE,zhM] at h2;rw[hE,zhM];exact⟨rfl,_,h2⟩
end Go.Proofs.YtcbcpomacdngmaaGreat
