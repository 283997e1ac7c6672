/-
  x
-/
import Derived.Test.YtcbcpomacdngmaaGreatQ32
namespace Go.Proofs.YtcbcpomacdngmaaGreat
set_option maxRecDepth 100000
set_option maxHeartbeats 4000000
set_option linter.unusedVariables false
open Go.RowKit Go.ChangeShapes Go.WideShapes
theorem zkP{G:List Cl}(h:zav G=0):∀ i,i<G.length->(cl G i).ks.length<=1000:=fun i hi=>by
 unfold zav at h
 split at h
 ·omega
 ·have:=zey h i hi;unfold zfa at this
  split at this
  ·omega
  ·split at this
   ·omega
   ·omega
def hcL(hs:List (Int × Int)):List Value:=(List.range (hs.length*2)).map (hcF hs)
theorem zox(hs:List (Int × Int)):(hcL hs).length=hs.length*2:=by simp[hcL]
theorem zzS{hs:List (Int × Int)}{j:Nat}{v:Value}(h:(hcL hs)[j]?=some v):j<hs.length*2/\v=hcF hs j:=by
 obtain⟨hl,E⟩:=List.getElem?_eq_some_iff.1 h;have D:=hl;rw[zox] at D;refine⟨D,?_⟩;rw[<- E];simp[hcL]
theorem zyz(hs:List (Int × Int)):∀ v ∈ hcL hs,v.oneCell' = true:=fun v D=>by
 obtain⟨j,_,rfl⟩:=List.mem_map.1 D;rfl
theorem ztu{w:World}{a:Option Addr}{hs:List (Int × Int)}(h:zas w a hs):∀ D,a=some D->∀ j v,(hcL hs)[j]?=some v->w.cell? (D.add j)=some v:=fun D e j v J=>by
 obtain⟨hl,rfl⟩:=zzS J;obtain⟨b,o,E,h1,I⟩:=h (j / 2) (by omega);rw[e] at E;cases E;rw[Addr.add_lit];by_cases F:j % 2=0
 ·have:j=j / 2*2:=by omega
  rw[show o+j=o+j / 2*2 by omega,h1];unfold hcF;rw[yb F]
 ·rw[show o+j=o+j / 2*2+1 by omega,I];unfold hcF;rw[ya F]
theorem zov{w:World}{h:Nat}{hs:List (Int × Int)}(e:w.heap[h]?=some (.cells (hcL hs).toArray 61 (0,0))):w.rowIs h 61 (hs.length*2) (hcF hs):=by
 refine⟨_,e,?_,fun i hi=>?_⟩
 ·simp[zox]
 ·simp[hcL,hi]
theorem zpJ{w:World}{a:Option Addr}{l:List Int}(h:zaj w a l):∀ D,a=some D->∀ j v,(l.map (Value.int .i64))[j]?=some v->w.cell? (D.add j)=some v:=fun D e j v I=>by
 obtain⟨hl,F⟩:=List.getElem?_eq_some_iff.1 I;obtain⟨b,o,E,h1⟩:=h j (by simpa using hl);rw[e] at E;cases E;rw[List.getElem_map] at F;rw[zae l 0 (by simpa using hl),F] at h1;rw[Addr.add_lit];exact h1
theorem ztC{w:World}{a:Option Addr}{l:List Int}(h:zaj w a l):a=none->l.length=0:=fun e=>by
 subst e
 cases hl:l.length with
 | zero=>rfl
 | succ n=>obtain⟨b,o,D,_⟩:=h 0 (by omega);cases D
theorem zyc(a:Option Addr)(c n:Nat)(D:List Value)(w:World)(hn:n<=100000)(hl:D.length=n*2)(E:a=none->n=0)(hsrc:∀ F,a=some F->∀ j u,D[j]?=some u->w.cell? (F.add j)=some u)(h1:∀ u ∈ D,u.oneCell' = true) :
  Calls Tryz.prog 103 #[.slice a n c] w fun e w' => e=.returned (.slice (some ⟨w.heap.size,0,none⟩) n n)/\Below w.heap.size w w' /\ w'.heap[w.heap.size]?=some (.cells D.toArray 61 (0,0)):=by
 have hz:(Tryz.prog.info? 61).map (fun i=>(i.zero,i.size,i.bytes))=some (some (.agg #[.int .i64 0,.int .i64 0]),2,16):=by kernel_rfl
 obtain⟨i0,J,a8,O,a9⟩:=info_parts hz
 have b0:∀ w:World,(Instr.makeSlice 44 (.int .i64 (n:Int)) (.int .i64 (n:Int))).run Tryz.prog w=.ok (.slice (some ⟨w.heap.size,0,none⟩) n n) (w.alloc (.cells (madeCells #[.int .i64 0,.int .i64 0] (n*2)) 61)):=fun w=>by
  have h:=run_make (P:=Tryz.prog) w 44 61 i0 _ Tryz.underlying44 J a8 .i64 .i64 n n (by omega) (by omega) (by rw[a9];omega) (by omega);rw[O] at h;simp only[yi] at h;exact h
 have HG:Hid ((w.alloc (.cells (madeCells #[.int .i64 0,.int .i64 0] (n*2)) 61)).heap[w.heap.size]?=some (.cells (madeCells #[.int .i64 0,.int .i64 0] (n*2)).toList.toArray 61 (0,0))):=by
  have:=heap_alloc_new w (.cells (madeCells #[.int .i64 0,.int .i64 0] (n*2)) 61);show _=_;simpa using this
 have a7:Hid (∀ o1:Obj,∀ F,a=some F->∀ j u,D[j]?=some u->(w.alloc o1).cell? (F.add j)=some u):=fun o1 F e j u hj=>by
  have h1:=hsrc F e j u hj;exact((zaa w o1).cell (yd _ _ h1)).trans h1
 have a5:Hid (a=none->n=0):=E;have a6:Hid (∀ u ∈ D,u.oneCell' = true):=h1;have Z:Hid (D.length=n*2):=hl;clear hsrc E h1 hl
 go_enter Tryz.func103,Tryz.ntmps103
 go_wp2_with (refine zcW rfl (.tmp 7) (.tmp 8) 44 44 rfl 61 i0 2 Tryz.underlying44 J O w.heap.size n n a c rfl rfl (madeCells #[.int .i64 0,.int .i64 0] (n*2)).toList 61 HG.out D Z.out (by simp[size_madeCells]) a5.out (a7.out _) a6.out ?_)
 intro w3 M I;have T:Hid (Below w.heap.size w w3):=I.out _ _ (zaa _ _) (yj _);have U:Hid _:=M;clear M I
 go_wp2
 go_ret;exact⟨rfl,T.out,U.out⟩
theorem zBb{w:World}{B g:Nat}{S:List Nd}{kb kc:Nat->Nat}(h:Own w B g S kb kc S.length):zlk w g (fun b=>b<B) S:=by
 obtain⟨h0,F,D,E,hg,_⟩:=h;exact⟨by omega,F,D,fun i hi=>⟨kb i,kc i,E i hi,by have:=hg i hi;omega,by have:=hg i hi;omega⟩⟩
theorem zAS{w V E F D O X:World}{R:Rl}{g gg z:Nat}{kb kc:Nat->Nat}(c0 c1 c2:Nat)(bV:Below w.heap.size w V)(b3:Below V.heap.size V E)(o3:Own E V.heap.size g R.s kb kc R.s.length)(Z:Below E.heap.size E F)(hr:F.heap[E.heap.size]?=some (.cells (hcL R.hs).toArray 61 (0,0)))
  (T:Below F.heap.size F D) (c5:St (fun b=>b<F.heap.size\/D.heap.size<=b) (fun V=>zaG V (some ⟨gg,0,none⟩) R.i) D) (J:Below D.heap.size D O) (tr:O.rowIs D.heap.size 3 R.t.length (zsa R)) (zl:z<V.heap.size) (M:zaq (fun b=>b=z) O X) (bX:Below w.heap.size w X) :
  CI w R E.heap.size g ⟨some ⟨g,0,none⟩,some ⟨E.heap.size,0,none⟩,some ⟨gg,0,none⟩,some ⟨D.heap.size,0,none⟩,c0,c1,c2,R.t.length⟩ X:=by
 have hl:=zaw hr;have tl:=tr.lt;have sV:=bV.size;have s3:=b3.size;have s4:=Z.size;have s5:=T.size;have s6:=J.size;have U:=zBb o3;have gl:=U.lt;have hg:=U.1;have oX:zlk X g (fun b=>b<V.heap.size\/b=E.heap.size\/b=D.heap.size) R.s:=((((U.grow (Y:=fun b=>b<V.heap.size\/b=E.heap.size\/b=D.heap.size) (fun b I hy=>by omega)).off (zaq.of_below Z)).off (zaq.of_below T)).off (zaq.of_below J)).off (M.mono (fun b I=>Or.inl (by have:b=z:=I;omega)));refine⟨bX,by omega,(show w.heap.size<=D.heap.size by omega),(show D.heap.size≠E.heap.size by omega),rfl,rfl,rfl,rfl,zov ?_,tr.of_block (M.block _ tl (by show ¬ D.heap.size=z;omega)),oX.grow (fun b _ hy=>?_),(St.off (X:=fun b=>b<F.heap.size\/D.heap.size<=b) (c5.off (zaq.of_below J)) (M.mono (fun b I=>Or.inl (by have:b=z:=I;omega)))).less (fun b I=>?_)⟩
 ·exact(M.block _ (by omega) (by show ¬ E.heap.size=z;omega)).trans (zaD (zaD hr T) J)
 ·have:b<w.heap.size\/b=E.heap.size\/b=D.heap.size:=hy;omega
 ·have:b<w.heap.size\/b=E.heap.size\/b=D.heap.size\/b=g:=I;omega
theorem zkL(A:RA)(R:Rl)(w:World)(hR:zaF R=0)(hW:zcp w A R) :
  Calls Tryz.prog 73 #[rlV A R] w fun e w' => ∃ (B:RA) (h g:Nat),e=.returned (rlV B R)/\CI w R h g B w' := by
 obtain⟨a0,a1,a2,a3,c0,c1,c2,c3⟩:=A;obtain⟨wf,hl,b0,ht⟩:=zaB hR;have d5:=zdg b0;obtain⟨w0,w1,w2,w3⟩:=hW;have D0:Hid (∀ W,Below w.heap.size w W->_):=fun W hW=>YtcbcpomacdngmaaGreat.copy_any a0 c0 R.s W wf.small (zdu wf) (w0.below hW);have D1:Hid (∀ W,Below w.heap.size w W->_):=fun W hW=>zyc a1 c1 R.hs.length (hcL R.hs) W (by omega) (zox _) (fun e=>by obtain⟨b,o,e2,_⟩:=w1 0 (by omega);rw[e] at e2;cases e2) (ztu (w1.below hW)) (zyz _);have D2:Hid (∀ W,Below w.heap.size w W->_):=fun W hW=>zhD a2 c2 R.i W (by omega) (zkP b0) (w2.below hW);have D3:Hid (∀ W,Below w.heap.size w W->_):=fun W hW=>zfl a3 c3 R.t W (by omega) (w3.below hW);clear w0 w1 w2 w3 d5 b0 wf hR ht;have CC:Hid (∀ (V D M E T X:World) (g gg z:Nat) (kb kc:Nat->Nat),Below w.heap.size w V->Below V.heap.size V D->Own D V.heap.size g R.s kb kc R.s.length->Below D.heap.size D M->M.heap[D.heap.size]?=some (.cells (hcL R.hs).toArray 61 (0,0))->Below M.heap.size M E->St (fun b=>b<M.heap.size\/E.heap.size<=b) (fun V=>zaG V (some ⟨gg,0,none⟩) R.i) E->Below E.heap.size E T->T.rowIs E.heap.size 3 R.t.length (zsa R)->z<V.heap.size->zaq (fun b=>b=z) T X->Below w.heap.size w X->CI w R D.heap.size g ⟨some ⟨g,0,none⟩,some ⟨D.heap.size,0,none⟩,some ⟨gg,0,none⟩,some ⟨E.heap.size,0,none⟩,R.s.length,R.hs.length,R.i.length,R.t.length⟩ X):=fun V D M E T X g gg z kb kc h1 h2 h3 h4 h5 h6 h7 h8 h9 c7 c8 c9=>zAS _ _ _ h1 h2 h3 h4 h5 h6 h7 h8 h9 c7 c8 c9;dsimp only[rlV];obtain⟨O,b6⟩:∃ n,R.s.length=n:=⟨_,rfl⟩;obtain⟨U,b4⟩:∃ n,R.hs.length=n:=⟨_,rfl⟩
 obtain⟨Z,b5⟩:∃ n,R.i.length=n:=⟨_,rfl⟩;obtain⟨nt,b7⟩:∃ n,R.t.length=n:=⟨_,rfl⟩;rw[b6] at D0 CC |-;rw[b4] at D1 CC |-;rw[b5] at D2 CC |-;rw[b7] at D3 CC |-;clear b6 b4 b5 b7 hl
 go_enter Tryz.func73,Tryz.ntmps73
 go_wp2_with fail
 obtain⟨V,hV⟩:∃ V,(w.alloc (.cells #[.slice a0 O c0,.slice a1 U c1,.slice a2 Z c2,.slice a3 nt c3] 50)).alloc (.cells #[.slice none 0 0,.slice none 0 0,.slice none 0 0,.slice none 0 0] 50)=V:=⟨_,rfl⟩;have XR:Hid (V.heap[w.heap.size]?=some (.cells #[.slice a0 O c0,.slice a1 U c1,.slice a2 Z c2,.slice a3 nt c3] 50 (0,0))):=by rw[<- hV];exact zaD (zcc _ _ _ _ _ _) (zaa _ _)
 have XZ:Hid (V.heap[w.heap.size+1]?=some (.cells #[.slice none 0 0,.slice none 0 0,.slice none 0 0,.slice none 0 0] 50 (0,0))):=by
  rw[<- hV];have h:=zcc (w.alloc (.cells #[.slice a0 O c0,.slice a1 U c1,.slice a2 Z c2,.slice a3 nt c3] 50)) 50 (.slice none 0 0) (.slice none 0 0) (.slice none 0 0) (.slice none 0 0);rw[yr] at h;exact h
 have BV:Hid (Below w.heap.size w V):=by rw[<- hV];exact zam _ _ _
 rw[hV];clear hV;obtain⟨l0,l1,l2,l3,lf,ll⟩:=zai XR.out
 go_region_held3 (fun a8=>a8.cell? ⟨w.heap.size,0,none⟩=some (.slice a0 O c0)/\a8.cell? ⟨w.heap.size,1,none⟩=some (.slice a1 U c1)/\a8.cell? ⟨w.heap.size,2,none⟩=some (.slice a2 Z c2)/\a8.cell? ⟨w.heap.size,3,none⟩=some (.slice a3 nt c3)) (go_keep) (first
  |(go_at_call 102;refine ye (D0.out _ BV.out.drew) ?_;rintro e D ⟨g,kb,kc,rfl,b2,b8⟩;have B3:Hid (Below V.heap.size V D):=(yk _ _).drew.trans b2;have O3:Hid (Own D V.heap.size g R.s kb kc O):=b8;have a5:Hid (Below w.heap.size w D):=BV.out.trans (B3.out.mono BV.out.size);have q0:=zab l0 B3.out;have q1:=zab l1 B3.out;have q2:=zab l2 B3.out;have q3:=zab l3 B3.out;clear b2 b8)
  |(go_at_call 103;refine ye (D1.out _ a5.out) ?_;rintro e M ⟨rfl,F,b9⟩;have B4:Hid (Below D.heap.size D M):=F;have R4:Hid _:=b9;have a6:Hid (Below w.heap.size w M):=a5.out.trans (F.mono a5.out.size);have p0:=zab q0 F;have p1:=zab q1 F;have p2:=zab q2 F;have p3:=zab q3 F;clear F b9)
  |(go_at_call 104;refine ye (D2.out _ a6.out) ?_;rintro e E ⟨gg,rfl,I,d4,b3⟩;have B5:Hid (Below M.heap.size M E):=I;have C5:Hid _:=b3;have a7:Hid (Below w.heap.size w E):=a6.out.trans (I.mono a6.out.size);have r0:=zab p0 I;have r1:=zab p1 I;have r2:=zab p2 I;have r3:=zab p3 I;clear I b3 d4)
  |(go_at_call 85;refine ye (D3.out _ a7.out) ?_;rintro e T ⟨rfl,J,c6⟩;have B6:Hid (Below E.heap.size E T):=J;have T6:Hid _:=c6;have b1:Hid (Below w.heap.size w T):=a7.out.trans (J.mono a7.out.size);have u0:=zab r0 J;have u1:=zab r1 J;have u2:=zab r2 J;have u3:=zab r3 J;clear J c6;have a9:Hid _:=zaD (zaD (zaD (zaD XZ.out B3.out) B4.out) B5.out) B6.out;obtain⟨t0,t1,t2,t3,tf,tl⟩:=zai a9.out))
 clear t0 t1 t2 t3 tf tl u0 u1 u2 u3 r0 r1 r2 r3 p0 p1 p2 p3 q0 q1 q2 q3 l0 l1 l2 l3 lf ll;obtain⟨X,hX⟩:∃ X,(((T.setCell ⟨w.heap.size+1,0,none⟩ (.slice (some ⟨g,0,none⟩) O O)).setCell ⟨w.heap.size+1,1,none⟩ (.slice (some ⟨D.heap.size,0,none⟩) U U)).setCell ⟨w.heap.size+1,2,none⟩ (.slice (some ⟨gg,0,none⟩) Z Z)).setCell ⟨w.heap.size+1,3,none⟩ (.slice (some ⟨E.heap.size,0,none⟩) nt nt)=X:=⟨_,rfl⟩;have x0:X.heap[w.heap.size+1]?=some (.cells #[.slice (some ⟨g,0,none⟩) O O,.slice (some ⟨D.heap.size,0,none⟩) U U,.slice (some ⟨gg,0,none⟩) Z Z,.slice (some ⟨E.heap.size,0,none⟩) nt nt] 50 (0,0)):=by rw[<- hX];exact zcL a9.out
 have xo:zaq (fun b=>b=w.heap.size+1) T X:=by
  rw[<- hX];exact(((zaq.set (X:=fun b=>b=w.heap.size+1) _ _ rfl).trans (zaq.set (X:=fun b=>b=w.heap.size+1) _ _ rfl)).trans (zaq.set (X:=fun b=>b=w.heap.size+1) _ _ rfl)).trans (zaq.set (X:=fun b=>b=w.heap.size+1) _ _ rfl)
 have xb:Below w.heap.size w X:=by
  rw[<- hX];exact(((b1.out.setCell (by simp) _).setCell (by simp) _).setCell (by simp) _).setCell (by simp) _
 rw[hX];clear hX;have C:Hid _:=CC.out V D M E T X g gg (w.heap.size+1) kb kc BV.out B3.out O3.out B4.out R4.out B5.out C5.out B6.out T6.out (zaw XZ.out) xo xb;obtain⟨m0,m1,m2,m3,mf,ml⟩:=zai x0;clear xo xb x0 O3 B3 B4 B5 B6 C5 T6 R4 a9 XZ XR BV a5 a6 a7 b1 CC D0 D1 D2 D3
 go_wp2
 exact yv (v:=.agg #[.slice (some ⟨g,0,none⟩) O O,.slice (some ⟨D.heap.size,0,none⟩) U U,.slice (some ⟨gg,0,none⟩) Z Z,.slice (some ⟨E.heap.size,0,none⟩) nt nt]) (by simp[results,Tryz.results73,go_sem,m0,m1,m2,m3]) rfl ⟨_,_,_,rfl,C.out⟩
def zkA(R:Rl)(x:Ac)(q:Rs):Prop:=∀ W:World,Calls Tryz.prog 162 #[.int .i64 x.k] W fun e w' => ∃ (K:Nat) (D:Array Value),e=.returned (.func (.func K) #[] D)/\Below W.heap.size W w' /\(∀ args w,(callFunc K args).run Tryz.prog w=.ok (.enter K args) w)/\∀ E,Below w'.heap.size w' E->zmq K D E R x q
theorem zaY{W:World}{b t:Nat}{D v1 v2 E F:Value}(h:W.heap[b]?=some (.cells #[D,v1,v2,E,F] t (0,0))):W.cell? ⟨b,0,none⟩=some D/\W.cell? ⟨b,1,none⟩=some v1/\W.cell? ⟨b,2,none⟩=some v2/\W.cell? ⟨b,3,none⟩=some E/\W.cell? ⟨b,4,none⟩=some F/\b<W.heap.size :=
 ⟨by simp[World.cell?,h],by simp[World.cell?,h],by simp[World.cell?,h],by simp[World.cell?,h],by simp[World.cell?,h],zaw h⟩
structure DoI (w:World) (A:RA) (R:Rl) (x:Ac) (V:World):Prop where
 bel:Below w.heap.size w V
 r:V.heap[w.heap.size]?=some (bxR A R)
 x:V.heap[w.heap.size+1]?=some (.cells #[.int .i64 x.k,.int .i64 x.a,.int .i64 x.b,.int .i64 x.c,.int .i64 x.n] 36 (0,0))
 z:V.heap[w.heap.size+1+1]?=some (.cells #[.slice none 0 0,.slice none 0 0,.slice none 0 0,.slice none 0 0] 50 (0,0))
 rl:zcp V A R
theorem DoI.below{w V E:World}{A:RA}{R:Rl}{x:Ac}(I:DoI w A R x V)(D:Below V.heap.size V E):DoI w A R x E:=⟨I.bel.trans (D.mono I.bel.size),zaD I.r D,zaD I.x D,zaD I.z D,I.rl.below D⟩
theorem zgT(w:World)(A:RA)(R:Rl)(x:Ac)(h:zcp w A R):DoI w A R x (((w.alloc (.cells #[.slice A.a0 R.s.length A.c0,.slice A.a1 R.hs.length A.c1,.slice A.a2 R.i.length A.c2,.slice A.a3 R.t.length A.c3] 50)).alloc (.cells #[.int .i64 x.k,.int .i64 x.a,.int .i64 x.b,.int .i64 x.c,.int .i64 x.n] 36)).alloc (.cells #[.slice none 0 0,.slice none 0 0,.slice none 0 0,.slice none 0 0] 50)):=by
 have I:=zaa w (.cells #[.slice A.a0 R.s.length A.c0,.slice A.a1 R.hs.length A.c1,.slice A.a2 R.i.length A.c2,.slice A.a3 R.t.length A.c3] 50);obtain⟨D,h1⟩:∃ D,w.alloc (.cells #[.slice A.a0 R.s.length A.c0,.slice A.a1 R.hs.length A.c1,.slice A.a2 R.i.length A.c2,.slice A.a3 R.t.length A.c3] 50)=D:=⟨_,rfl⟩;have T:=zcc w 50 (.slice A.a0 R.s.length A.c0) (.slice A.a1 R.hs.length A.c1) (.slice A.a2 R.i.length A.c2) (.slice A.a3 R.t.length A.c3);have s1:D.heap.size=w.heap.size+1:=by rw[<- h1];simp
 rw[h1] at I T |-;have E:=zaa D (.cells #[.int .i64 x.k,.int .i64 x.a,.int .i64 x.b,.int .i64 x.c,.int .i64 x.n] 36);have M:=heap_alloc_new D (.cells #[.int .i64 x.k,.int .i64 x.a,.int .i64 x.b,.int .i64 x.c,.int .i64 x.n] 36);obtain⟨F,O⟩:∃ F,D.alloc (.cells #[.int .i64 x.k,.int .i64 x.a,.int .i64 x.b,.int .i64 x.c,.int .i64 x.n] 36)=F:=⟨_,rfl⟩;have s2:F.heap.size=D.heap.size+1:=by rw[<- O];simp
 rw[O] at E M |-;have J:=zaa F (.cells #[.slice none 0 0,.slice none 0 0,.slice none 0 0,.slice none 0 0] 50);have U:=zcc F 50 (.slice none 0 0) (.slice none 0 0) (.slice none 0 0) (.slice none 0 0);rw[s2,s1] at U;rw[s1] at M;exact⟨I.trans ((E.trans (J.mono E.size)).mono I.size),zaD (zaD T E) J,zaD M J,U,((h.below I).below E).below J⟩
structure RlO (B:Nat) (V:World) (A:RA) (R:Rl):Prop where
 a3:A.a3=some ⟨tOf A,0,none⟩
 c3:A.c3=R.t.length
 t0:B<=tOf A
 tr:V.rowIs (tOf A) 3 R.t.length (zsa R)
 st:St (fun b=>b<B\/b=tOf A) (fun V=>zah V A.a0 R.s/\zas V A.a1 R.hs/\zaG V A.a2 R.i) V
theorem RlO.at{B:Nat}{V:World}{A:RA}{R:Rl}(h:RlO B V A R):zcp V A R:=⟨h.st.at.1,h.st.at.2.1,h.st.at.2.2,by rw[h.a3];exact zfR h.tr⟩
theorem RlF.rlo{n B d:Nat}{V:World}{A:RA}{R:Rl}(h:RlF n d V A R)(hn:B<=n):RlO B V A R:=⟨h.a3,h.c3,yE hn h.t0,h.tr,h.st.less (fun b D=>by omega)⟩
theorem zyl(A:RA)(R:Rl)(x:Ac)(q:Rs)(w:World)(hR:zaF R=0)(hW:zcp w A R)(ha:isH x.a)(hD:zkA R x q) :
  Calls Tryz.prog 148 #[rlV A R,acV x] w fun e w' => ∃ B:RA,e=.returned (.tuple #[rlV B (if q.e=0 then q.r else zbK),.int .i64 (if q.e=0 then q.o else 0),.int .i64 q.e])/\Below w.heap.size w w' /\ zcp w' B (if q.e=0 then q.r else zbK)/\(q.e=0->RlO w.heap.size w' B (if q.e=0 then q.r else zbK)):=by
 have hl:=(zaB hR).2.1;have D0:Hid (∀ W,zcp W A R->Calls _ _ _ _ _):=fun W hW=>zem A R W (zdo hR) hW;rw[hR] at D0;have D1:Hid (∀ W,Calls _ _ _ _ _):=fun W=>zcF A R x.a W hl;rw[show decide (isH x.a)=true from decide_eq_true ha] at D1;have D2:Hid (zkA R x q):=hD;have D3:Hid (∀ W,zcp W A R->Calls _ _ _ _ _):=fun W hW=>zkL A R W hR hW;have I0:Hid _:=zgT w A R x hW;have b4:Hid (∀ (W V:World) (h g:Nat) (B:RA),CI W R h g B V->_):=fun W V h g B I=>CI.wi I;have b7:Hid (∀ (V V' : World) (B:RA) (n d:Nat),RlF n d V B q.r->w.heap.size<=n->zaq (fun b=>b<n\/b=d) V V' -> RlO w.heap.size V' B q.r):=fun V V' B n d h1 h2 h3=>(h1.off h3).rlo h2;clear hW ha hD hR hl;obtain⟨xk,xa,xb,xc,xn⟩:=x;obtain⟨a0,a1,a2,a3,c0,c1,c2,c3⟩:=A;obtain⟨qe,D,qo⟩:=q;dsimp only[rlV,acV,zkA] at *;obtain⟨RR,a6⟩:∃ RR:Rl,(if qe=0 then D else zbK)=RR:=⟨_,rfl⟩;have J:Hid (_=RR):=a6;obtain⟨OO,a5⟩:∃ OO:Int,(if qe=0 then qo else 0)=OO:=⟨_,rfl⟩;have F:Hid (_=OO):=a5;rw[a6,a5];clear a6 a5
 go_enter Tryz.func148,Tryz.ntmps148
 go_wp2_with fail
 refine ye (D0.out _ I0.out.rl) ?_;rintro e V1 ⟨rfl,E⟩;have I1:Hid _:=I0.out.below E;clear E D0 I0;obtain⟨U,r1,r2,r3,Z,rl⟩:=zai I1.out.r;obtain⟨z0,z1,z2,z3,zf,zl⟩:=zai I1.out.z;obtain⟨y0,y1,y2,y3,y4,yl⟩:=zaY I1.out.x
 go_wp2_with fail
 refine ye (D1.out _) ?_;rintro e V2 ⟨rfl,E⟩;have I2:Hid _:=I1.out.below E;clear U r1 r2 r3 Z rl z0 z1 z2 z3 zf zl y0 y1 y2 y3 y4 yl;clear E D1 I1;obtain⟨U,r1,r2,r3,Z,rl⟩:=zai I2.out.r;obtain⟨z0,z1,z2,z3,zf,zl⟩:=zai I2.out.z;obtain⟨y0,y1,y2,y3,y4,yl⟩:=zaY I2.out.x
 go_wp2_with fail
 refine ye (D2.out _) ?_;rintro e V3 ⟨K,O,rfl,E,eg,b5⟩;have M:Hid _:=I2.out.below E;have ZL:Hid (w.heap.size+1+1<V3.heap.size):=zaw M.out.z;have b8:∀ w:World,(binOp BinOp.eql 209 (Value.func (Fn.func K) #[] O) Value.nilFunc).run Tryz.prog w=.ok (.bool false) w:=fun _=>by kernel_rfl
 have HD:Hid (zmq K O V3 R ⟨xk,xa,xb,xc,xn⟩ ⟨qe,D,qo⟩):=b5 V3 (yk _ _);clear U r1 r2 r3 Z rl z0 z1 z2 z3 zf zl y0 y1 y2 y3 y4 yl;clear E D2 I2 b5;obtain⟨U,r1,r2,r3,Z,rl⟩:=zai M.out.r;obtain⟨z0,z1,z2,z3,zf,zl⟩:=zai M.out.z;obtain⟨y0,y1,y2,y3,y4,yl⟩:=zaY M.out.x
 go_wp2_with fail
 refine ye (D3.out _ M.out.rl) ?_;rintro e V4 ⟨⟨b0,b1,b2,b3,d0,d1,d2,d3⟩,h,g,rfl,a8⟩;have I4:Hid _:=M.out.below a8.bel;have W4:Hid _:=b4.out _ _ _ _ _ a8;clear U r1 r2 r3 Z rl z0 z1 z2 z3 zf zl y0 y1 y2 y3 y4 yl;clear D3 a8 b4;obtain⟨U,r1,r2,r3,Z,rl⟩:=zai I4.out.r;obtain⟨z0,z1,z2,z3,zf,zl⟩:=zai I4.out.z;obtain⟨y0,y1,y2,y3,y4,yl⟩:=zaY I4.out.x
 go_wp2_with fail
 refine ye (HD.out _ _ _ _ _ W4.out) ?_;rintro e V5 ⟨o,rfl,E,hq⟩;have I5:Hid _:=M.out.below E;clear U r1 r2 r3 Z rl z0 z1 z2 z3 zf zl y0 y1 y2 y3 y4 yl;clear W4 I4 HD E M;obtain⟨U,r1,r2,r3,Z,rl⟩:=zai I5.out.r;obtain⟨z0,z1,z2,z3,zf,zl⟩:=zai I5.out.z;obtain⟨y0,y1,y2,y3,y4,yl⟩:=zaY I5.out.x;by_cases hE:qe=0
 ·subst hE;obtain rfl:D=RR:=(yb rfl).symm.trans J.out;obtain rfl:qo=OO:=(yb rfl).symm.trans F.out;obtain⟨rfl,⟨e0,e1,e2,e3,f0,f1,f2,f3⟩,a7,a9⟩:=hq rfl;dsimp only at a7 a9;have b6:Hid _:=a9;obtain⟨s0,s1,s2,s3,sf,sl⟩:=zai a7;clear a7 hq a9 J F;dsimp only at s0 s1 s2 s3
  go_wp2
  obtain⟨X,T⟩:∃ X,(((V5.setCell ⟨w.heap.size+1+1,0,none⟩ (.slice e0 D.s.length f0)).setCell ⟨w.heap.size+1+1,1,none⟩ (.slice e1 D.hs.length f1)).setCell ⟨w.heap.size+1+1,2,none⟩ (.slice e2 D.i.length f2)).setCell ⟨w.heap.size+1+1,3,none⟩ (.slice e3 D.t.length f3)=X:=⟨_,rfl⟩;have x0:X.heap[w.heap.size+1+1]?=some (.cells #[.slice e0 D.s.length f0,.slice e1 D.hs.length f1,.slice e2 D.i.length f2,.slice e3 D.t.length f3] 50 (0,0)):=by rw[<- T];exact zcL I5.out.z
  have xb:Below w.heap.size w X:=by rw[<- T];exact(((I5.out.bel.setCell (by simp;omega) _).setCell (by simp;omega) _).setCell (by simp;omega) _).setCell (by simp;omega) _
  have xr:RlO w.heap.size X ⟨e0,e1,e2,e3,f0,f1,f2,f3⟩ D:=by rw[<- T];exact b7.out V5 _ _ _ _ b6.out (by have:=ZL.out;omega) ((((zaq.set _ _ (Or.inl ZL.out)).trans (zaq.set _ _ (Or.inl ZL.out))).trans (zaq.set _ _ (Or.inl ZL.out))).trans (zaq.set _ _ (Or.inl ZL.out)))
  rw[T];obtain⟨m0,m1,m2,m3,mf,ml⟩:=zai x0;exact yv (v:=.tuple #[.agg #[.slice e0 D.s.length f0,.slice e1 D.hs.length f1,.slice e2 D.i.length f2,.slice e3 D.t.length f3],.int .i64 o,.int .i64 0]) (by simp[results,Tryz.results148,go_sem,m0,m1,m2,m3]) rfl ⟨⟨e0,e1,e2,e3,f0,f1,f2,f3⟩,rfl,xb,xr.at,xr⟩
 ·obtain rfl:zbK=RR:=(ya hE).symm.trans J.out;obtain rfl:(0:Int)=OO:=(ya hE).symm.trans F.out;have hz:(qe == 0)=false:=by simp[hE]
  clear hq J F;dsimp only
  go_wp2
  obtain⟨X,T⟩:∃ X,(((V5.setCell ⟨w.heap.size+1+1,0,none⟩ (.slice none 0 0)).setCell ⟨w.heap.size+1+1,1,none⟩ (.slice none 0 0)).setCell ⟨w.heap.size+1+1,2,none⟩ (.slice none 0 0)).setCell ⟨w.heap.size+1+1,3,none⟩ (.slice none 0 0)=X:=⟨_,rfl⟩;have x0:X.heap[w.heap.size+1+1]?=some (.cells #[.slice none 0 0,.slice none 0 0,.slice none 0 0,.slice none 0 0] 50 (0,0)):=by rw[<- T];exact zcL I5.out.z
  have xb:Below w.heap.size w X:=by rw[<- T];exact(((I5.out.bel.setCell (by simp;omega) _).setCell (by simp;omega) _).setCell (by simp;omega) _).setCell (by simp;omega) _
  rw[T];obtain⟨m0,m1,m2,m3,mf,ml⟩:=zai x0;exact yv (v:=.tuple #[.agg #[.slice none 0 0,.slice none 0 0,.slice none 0 0,.slice none 0 0],.int .i64 0,.int .i64 qe]) (by simp[results,Tryz.results148,go_sem,m0,m1,m2,m3]) rfl ⟨⟨none,none,none,none,0,0,0,0⟩,rfl,xb,zjL _ _⟩
end Go.Proofs.YtcbcpomacdngmaaGreat
