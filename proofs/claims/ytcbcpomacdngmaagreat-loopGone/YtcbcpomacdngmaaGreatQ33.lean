/-
  x
-/
import Derived.Test.YtcbcpomacdngmaaGreatQ31
namespace Go.Proofs.YtcbcpomacdngmaaGreat
set_option maxRecDepth 100000
set_option maxHeartbeats 4000000
set_option linter.unusedVariables false
open Go.RowKit Go.ChangeShapes Go.WideShapes
def hcF(hs:List (Int × Int)):Nat->Value:=fun j=>.int .i64 (if j % 2=0 then (hs.getD (j / 2) (0,0)).1 else (hs.getD (j / 2) (0,0)).2)
theorem zAf(hs:List (Int × Int))(i:Nat):hcF hs (i*2)=.int .i64 (hs.getD i (0,0)).1:=by
 unfold hcF;rw[yd (by omega),show i*2 / 2=i by omega]
theorem zAg(hs:List (Int × Int))(i:Nat):hcF hs (i*2+1)=.int .i64 (hs.getD i (0,0)).2:=by
 unfold hcF;rw[ya (by omega),show (i*2+1) / 2=i by omega]
theorem zfu{w:World}{h:Nat}{hs:List (Int × Int)}(D:w.rowIs h 61 (hs.length*2) (hcF hs)):zau w (some ⟨h,0,none⟩) hs:=fun i hi=>by
 refine⟨h,0,rfl,?_,?_⟩
 ·rw[yB,D.cell (by omega),zAf]
 ·rw[yB,D.cell (by omega),zAg]
theorem zyN(hs:List (Int × Int))(k:Nat)(x:Int × Int)(E:k<hs.length):(fun j=>if j=k*2+1 then Value.int .i64 x.2 else if j=k*2 then Value.int .i64 x.1 else hcF hs j)=hcF (hs.set k x):=by
 have key:∀ i,(hs.set k x).getD i (0,0)=if i=k then x else hs.getD i (0,0):=fun i=>by
  by_cases e:i=k
  ·subst e;rw[yd rfl];simp[List.getD_eq_getElem?_getD,E]
  ·rw[ya e];exact zhf _ _ _ _ _ e
 funext j
 unfold hcF;rw[key];by_cases h1:j=k*2+1
 ·subst h1;rw[yd rfl,ya (by omega),yd (by omega)]
 ·rw[ya h1];by_cases D:j=k*2
  ·subst D;rw[yd rfl,yd (by omega),yd (by omega)]
  ·rw[ya D,ya (show ¬ j / 2=k by omega)]
def zlq(w:World)(g:Nat)(X:Nat->Prop)(S:List Nd):Prop :=
 ¬ X g/\∃ F,w.rowIs g 57 (S.length*8) F/\∀ i,i<S.length->∃ kb kc,NdR w F (i*8) (nd S i) kb kc/\kb≠g/\¬ X kb
theorem zlq.off{w w' : World}{g:Nat}{X:Nat->Prop}{S:List Nd}(h:zlq w g X S)(J:zar X w w'):zlq w' g X S:=by
 obtain⟨hg,F,E,hN⟩:=h;refine⟨hg,F,E.of_block (J.block g E.lt hg),fun i hi=>?_⟩;obtain⟨kb,kc,⟨O,T,U,Z,e4,e5,e6,e7,e8,D,G,I,e9⟩,hk,M⟩:=hN i hi;exact⟨kb,kc,⟨O,T,U,Z,e4,e5,e6,e7,e8,D,G,I.of_block (J.block kb I.lt M),e9⟩,hk,M⟩
theorem zlq.lt{w:World}{g:Nat}{X:Nat->Prop}{S:List Nd}(h:zlq w g X S):g<w.heap.size:=by
 obtain⟨_,F,D,_⟩:=h;exact D.lt
theorem zlq.grow{w:World}{g:Nat}{X Y:Nat->Prop}{S:List Nd}(h:zlq w g X S)(I:∀ b,b<w.heap.size->Y b->X b):zlq w g Y S:=by
 obtain⟨hg,F,E,J⟩:=h;refine⟨fun D=>hg (I g E.lt D),F,E,fun i hi=>?_⟩;obtain⟨kb,kc,h1,M,O⟩:=J i hi;exact⟨kb,kc,h1,M,fun D=>O (I kb h1.row D)⟩
theorem zlq.nds{w:World}{g:Nat}{X:Nat->Prop}{S:List Nd}(h:zlq w g X S):zai w (some ⟨g,0,none⟩) S:=fun i hi=>by
 obtain⟨_,F,D,hN⟩:=h;obtain⟨kb,kc,⟨E,I,J,M,O,T,U,Z,e8,a5,G,hG,e9⟩,_⟩:=hN i hi;refine⟨g,0,rfl,?_⟩;rw[yB];refine⟨?_,?_,?_,?_,?_,⟨some ⟨kb,0,none⟩,kc,?_,fun j hj=>⟨kb,0,rfl,?_⟩⟩,?_,?_⟩
 ·rw[D.cell (by omega),E]
 ·rw[D.cell (by omega),I]
 ·rw[D.cell (by omega),J]
 ·rw[D.cell (by omega),M]
 ·rw[D.cell (by omega),O]
 ·rw[D.cell (by omega),T]
 ·rw[yB,hG.cell (by omega),e9 j hj]
 ·rw[D.cell (by omega),U]
 ·rw[D.cell (by omega),Z]
theorem zlq.st{w:World}{g:Nat}{X:Nat->Prop}{S:List Nd}(h:zlq w g X S):St X (fun V=>zai V (some ⟨g,0,none⟩) S) w:=fun w' D=>(h.off D).nds
theorem zlq.mark{w:World}{g:Nat}{X:Nat->Prop}{S:List Nd}{k:Nat}(h:zlq w g X S)(hk:k<S.length)(n:Int):zlq (w.setCell ⟨g,k*8+3,none⟩ (.int .i64 n)) g X (S.set k { nd S k with m:=n }):=by
 obtain⟨hg,F,hF,hN⟩:=h;refine⟨hg,_,by rw[List.length_set];exact hF.set (k*8+3) (.int .i64 n),fun i hi=>?_⟩;rw[List.length_set] at hi;obtain⟨kb,kc,⟨O,T,U,e3,Z,e5,e6,e7,J,D,G,hG,M⟩,I,hx⟩:=hN i hi;have E:=hG.setOther (a:=⟨g,k*8+3,none⟩) (by simp;omega) (.int .i64 n);refine⟨kb,kc,?_,I,hx⟩;rw[zcX S k i _ hk];by_cases e:i=k
 ·subst e;rw[yd rfl];refine⟨?_,?_,?_,?_,?_,?_,?_,?_,J,D,G,E,M⟩
  all_goals dsimp only
  ·rw[ya (by omega),O]
  ·rw[ya (by omega),T]
  ·rw[ya (by omega),U]
  ·rw[yd rfl]
  ·rw[ya (by omega),Z]
  ·rw[ya (by omega),e5]
  ·rw[ya (by omega),e6]
  ·rw[ya (by omega),e7]
 ·rw[ya e];refine⟨?_,?_,?_,?_,?_,?_,?_,?_,J,D,G,E,M⟩
  all_goals
   dsimp only;rw[ya (by omega)];assumption
def tOf(A:RA):Nat:=(A.a3.getD ⟨0,0,none⟩).block
abbrev zsl(R:Rl):Nat->Value:=fun j=>.int .i64 (R.t.getD j 0)
structure CI (w:World) (R:Rl) (h g:Nat) (A:RA) (V:World):Prop where
 bel:Below w.heap.size w V
 h0:w.heap.size<=h
 t0:w.heap.size<=tOf A
 th:tOf A≠h
 a0:A.a0=some ⟨g,0,none⟩
 a1:A.a1=some ⟨h,0,none⟩
 a3:A.a3=some ⟨tOf A,0,none⟩
 c3:A.c3=R.t.length
 row:V.rowIs h 61 (R.hs.length*2) (hcF R.hs)
 tr:V.rowIs (tOf A) 3 R.t.length (zsl R)
 own:zlq V g (fun b=>b<w.heap.size\/b=h\/b=tOf A) R.s
 cls:St (fun b=>b<w.heap.size\/b=h\/b=tOf A\/b=g) (fun V=>zaI V A.a2 R.i) V
structure WI (w:World) (R:Rl) (d h g:Nat) (A:RA) (V:World):Prop where
 bel:Below w.heap.size w V
 d0:w.heap.size<=d
 h0:w.heap.size<=h
 t0:w.heap.size<=tOf A
 dh:h≠d
 th:tOf A≠h
 td:tOf A≠d
 a0:A.a0=some ⟨g,0,none⟩
 a1:A.a1=some ⟨h,0,none⟩
 a3:A.a3=some ⟨tOf A,0,none⟩
 c3:A.c3=R.t.length
 box:V.heap[d]?=some (bxR A R)
 row:V.rowIs h 61 (R.hs.length*2) (hcF R.hs)
 tr:V.rowIs (tOf A) 3 R.t.length (zsl R)
 own:zlq V g (fun b=>b<w.heap.size\/b=d\/b=h\/b=tOf A) R.s
 cls:St (fun b=>b<w.heap.size\/b=d\/b=h\/b=tOf A\/b=g) (fun V=>zaI V A.a2 R.i) V
theorem CI.wi{w V:World}{R:Rl}{h g:Nat}{A:RA}(I:CI w R h g A V):WI w R V.heap.size h g A (V.alloc (.cells #[.slice A.a0 R.s.length A.c0,.slice A.a1 R.hs.length A.c1,.slice A.a2 R.i.length A.c2,.slice A.a3 R.t.length A.c3] 50)):=by
 have D:=zaa V (.cells #[.slice A.a0 R.s.length A.c0,.slice A.a1 R.hs.length A.c1,.slice A.a2 R.i.length A.c2,.slice A.a3 R.t.length A.c3] 50);have hl:=I.row.lt;have tl:=I.tr.lt;exact⟨I.bel.trans (D.mono I.bel.size),I.bel.size,I.h0,I.t0,by omega,I.th,by omega,I.a0,I.a1,I.a3,I.c3,zci _ _ _ _ _ _,I.row.of_block (D.block h hl),I.tr.of_block (D.block _ tl),(I.own.grow (fun b E F=>by omega)).off (zar.of_below D),I.cls.grow (zar.of_below D) (fun b E F=>by omega)⟩
theorem WI.below{w V E:World}{R:Rl}{d h g:Nat}{A:RA}(I:WI w R d h g A V)(D:Below V.heap.size V E):WI w R d h g A E :=
 ⟨I.bel.trans (D.mono I.bel.size),I.d0,I.h0,I.t0,I.dh,I.th,I.td,I.a0,I.a1,I.a3,I.c3,zat I.box D,I.row.of_block (D.block h I.row.lt),I.tr.of_block (D.block _ I.tr.lt),I.own.off (zar.of_below D),I.cls.off (zar.of_below D)⟩
theorem WI.nds{w V:World}{R:Rl}{d h g:Nat}{A:RA}(I:WI w R d h g A V):zai V (some ⟨g,0,none⟩) R.s:=I.own.nds
theorem WI.gs{w V:World}{R:Rl}{d h g:Nat}{A:RA}(I:WI w R d h g A V):w.heap.size<=g/\g≠d/\h≠g/\tOf A≠g:=by
 have:=I.own.1;omega
theorem WI.base{w V:World}{R:Rl}{d h g:Nat}{A:RA}(I:WI w R d h g A V):w.heap.size<=V.heap.size/\d<V.heap.size/\h<V.heap.size/\tOf A<V.heap.size:=⟨I.bel.size,zay I.box,I.row.lt,I.tr.lt⟩
theorem WI.hand{w V:World}{R:Rl}{d h g:Nat}{A:RA}(I:WI w R d h g A V){k:Nat}(D:k<R.hs.length):V.cell? ⟨h,k*2,none⟩=some (.int .i64 (hd R k).1)/\V.cell? ⟨h,k*2+1,none⟩=some (.int .i64 (hd R k).2):=by
 have e:hd R (k:Int)=R.hs.getD k (0,0):=by unfold hd;rw[yj]
 rw[e];exact⟨by rw[I.row.cell (by omega),zAf],by rw[I.row.cell (by omega),zAg]⟩
structure RlF (B d:Nat) (V:World) (A:RA) (R:Rl):Prop where
 a3:A.a3=some ⟨tOf A,0,none⟩
 c3:A.c3=R.t.length
 t0:B<=tOf A
 td:tOf A≠d
 tr:V.rowIs (tOf A) 3 R.t.length (zsl R)
 st:St (fun b=>b<B\/b=d\/b=tOf A) (fun V=>zai V A.a0 R.s/\zau V A.a1 R.hs/\zaI V A.a2 R.i) V
theorem RlF.off{B d:Nat}{V D:World}{A:RA}{R:Rl}(h:RlF B d V A R)(E:zar (fun b=>b<B\/b=d) V D):RlF B d D A R :=
 ⟨h.a3,h.c3,h.t0,h.td,h.tr.of_block (E.block _ h.tr.lt (by have:=h.t0;have:=h.td;omega)),h.st.off (E.mono (fun b F=>by omega))⟩
theorem RlF.below{B d:Nat}{V D:World}{A:RA}{R:Rl}(h:RlF B d V A R)(E:Below V.heap.size V D):RlF B d D A R:=h.off (zar.of_below E)
theorem zkT{G:List Cl}(h:zaA G=0):∀ i,i<G.length->(cl G i).ks.length<=1000:=fun i hi=>by
 unfold zaA at h
 split at h
 ·omega
 ·have:=zeG h i hi;unfold zfj at this
  split at this
  ·omega
  ·split at this
   ·omega
   ·omega
def hcL(hs:List (Int × Int)):List Value:=(List.range (hs.length*2)).map (hcF hs)
theorem zoz(hs:List (Int × Int)):(hcL hs).length=hs.length*2:=by simp[hcL]
theorem zAh{hs:List (Int × Int)}{j:Nat}{v:Value}(h:(hcL hs)[j]?=some v):j<hs.length*2/\v=hcF hs j:=by
 obtain⟨hl,E⟩:=List.getElem?_eq_some_iff.1 h;have D:=hl;rw[zoz] at D;refine⟨D,?_⟩;rw[<- E];simp[hcL]
theorem zyO(hs:List (Int × Int)):∀ v ∈ hcL hs,v.oneCell' = true:=fun v D=>by
 obtain⟨j,_,rfl⟩:=List.mem_map.1 D;rfl
theorem ztH{w:World}{a:Option Addr}{hs:List (Int × Int)}(h:zau w a hs):∀ D,a=some D->∀ j v,(hcL hs)[j]?=some v->w.cell? (D.add j)=some v:=fun D e j v J=>by
 obtain⟨hl,rfl⟩:=zAh J;obtain⟨b,o,E,h1,I⟩:=h (j / 2) (by omega);rw[e] at E;cases E;rw[Addr.add_lit];by_cases F:j % 2=0
 ·have:j=j / 2*2:=by omega
  rw[show o+j=o+j / 2*2 by omega,h1];unfold hcF;rw[yd F]
 ·rw[show o+j=o+j / 2*2+1 by omega,I];unfold hcF;rw[ya F]
theorem zox{w:World}{h:Nat}{hs:List (Int × Int)}(e:w.heap[h]?=some (.cells (hcL hs).toArray 61 (0,0))):w.rowIs h 61 (hs.length*2) (hcF hs):=by
 refine⟨_,e,?_,fun i hi=>?_⟩
 ·simp[zoz]
 ·simp[hcL,hi]
theorem zpQ{w:World}{a:Option Addr}{l:List Int}(h:zak w a l):∀ D,a=some D->∀ j v,(l.map (Value.int .i64))[j]?=some v->w.cell? (D.add j)=some v:=fun D e j v I=>by
 obtain⟨hl,F⟩:=List.getElem?_eq_some_iff.1 I;obtain⟨b,o,E,h1⟩:=h j (by simpa using hl);rw[e] at E;cases E;rw[List.getElem_map] at F;rw[zae l 0 (by simpa using hl),F] at h1;rw[Addr.add_lit];exact h1
theorem ztO{w:World}{a:Option Addr}{l:List Int}(h:zak w a l):a=none->l.length=0:=fun e=>by
 subst e
 cases hl:l.length with
 | zero=>rfl
 | succ n=>obtain⟨b,o,D,_⟩:=h 0 (by omega);cases D
theorem zyr(a:Option Addr)(c n:Nat)(D:List Value)(w:World)(hn:n<=100000)(hl:D.length=n*2)(E:a=none->n=0)(hsrc:∀ F,a=some F->∀ j u,D[j]?=some u->w.cell? (F.add j)=some u)(h1:∀ u ∈ D,u.oneCell' = true) :
  Calls Tryz.prog 103 #[.slice a n c] w fun e w' => e=.returned (.slice (some ⟨w.heap.size,0,none⟩) n n)/\Below w.heap.size w w' /\ w'.heap[w.heap.size]?=some (.cells D.toArray 61 (0,0)):=by
 have hz:(Tryz.prog.info? 61).map (fun i=>(i.zero,i.size,i.bytes))=some (some (.agg #[.int .i64 0,.int .i64 0]),2,16):=by kernel_rfl
 obtain⟨i0,J,a8,O,a9⟩:=info_parts hz
 have b0:∀ w:World,(Instr.makeSlice 44 (.int .i64 (n:Int)) (.int .i64 (n:Int))).run Tryz.prog w=.ok (.slice (some ⟨w.heap.size,0,none⟩) n n) (w.alloc (.cells (madeCells #[.int .i64 0,.int .i64 0] (n*2)) 61)):=fun w=>by
  have h:=run_make (P:=Tryz.prog) w 44 61 i0 _ Tryz.underlying44 J a8 .i64 .i64 n n (by omega) (by omega) (by rw[a9];omega) (by omega);rw[O] at h;simp only[yj] at h;exact h
 have HG:Hid ((w.alloc (.cells (madeCells #[.int .i64 0,.int .i64 0] (n*2)) 61)).heap[w.heap.size]?=some (.cells (madeCells #[.int .i64 0,.int .i64 0] (n*2)).toList.toArray 61 (0,0))):=by
  have:=yL w (.cells (madeCells #[.int .i64 0,.int .i64 0] (n*2)) 61);show _=_;simpa using this
 have a7:Hid (∀ o1:Obj,∀ F,a=some F->∀ j u,D[j]?=some u->(w.alloc o1).cell? (F.add j)=some u):=fun o1 F e j u hj=>by
  have h1:=hsrc F e j u hj;exact((zaa w o1).cell (ye _ _ h1)).trans h1
 have a5:Hid (a=none->n=0):=E;have a6:Hid (∀ u ∈ D,u.oneCell' = true):=h1;have Z:Hid (D.length=n*2):=hl;clear hsrc E h1 hl
 go_enter Tryz.func103,Tryz.ntmps103
 go_wp2_with (refine zde rfl (.tmp 7) (.tmp 8) 44 44 rfl 61 i0 2 Tryz.underlying44 J O w.heap.size n n a c rfl rfl (madeCells #[.int .i64 0,.int .i64 0] (n*2)).toList 61 HG.out D Z.out (by simp[size_madeCells]) a5.out (a7.out _) a6.out ?_)
 intro w3 M I;have T:Hid (Below w.heap.size w w3):=I.out _ _ (zaa _ _) (yk _);have U:Hid _:=M;clear M I
 go_wp2
 go_ret;exact⟨rfl,T.out,U.out⟩
theorem zBr{w:World}{B g:Nat}{S:List Nd}{kb kc:Nat->Nat}(h:Own w B g S kb kc S.length):zlq w g (fun b=>b<B) S:=by
 obtain⟨h0,F,D,E,hg,_⟩:=h;exact⟨by omega,F,D,fun i hi=>⟨kb i,kc i,E i hi,by have:=hg i hi;omega,by have:=hg i hi;omega⟩⟩
theorem zBh{w V E F D O X:World}{R:Rl}{g gg z:Nat}{kb kc:Nat->Nat}(c0 c1 c2:Nat)(bV:Below w.heap.size w V)(b3:Below V.heap.size V E)(o3:Own E V.heap.size g R.s kb kc R.s.length)(Z:Below E.heap.size E F)(hr:F.heap[E.heap.size]?=some (.cells (hcL R.hs).toArray 61 (0,0)))
  (T:Below F.heap.size F D) (c5:St (fun b=>b<F.heap.size\/D.heap.size<=b) (fun V=>zaI V (some ⟨gg,0,none⟩) R.i) D) (J:Below D.heap.size D O) (tr:O.rowIs D.heap.size 3 R.t.length (zsl R)) (zl:z<V.heap.size) (M:zar (fun b=>b=z) O X) (bX:Below w.heap.size w X) :
  CI w R E.heap.size g ⟨some ⟨g,0,none⟩,some ⟨E.heap.size,0,none⟩,some ⟨gg,0,none⟩,some ⟨D.heap.size,0,none⟩,c0,c1,c2,R.t.length⟩ X:=by
 have hl:=zay hr;have tl:=tr.lt;have sV:=bV.size;have s3:=b3.size;have s4:=Z.size;have s5:=T.size;have s6:=J.size;have U:=zBr o3;have gl:=U.lt;have hg:=U.1;have oX:zlq X g (fun b=>b<V.heap.size\/b=E.heap.size\/b=D.heap.size) R.s:=((((U.grow (Y:=fun b=>b<V.heap.size\/b=E.heap.size\/b=D.heap.size) (fun b I hy=>by omega)).off (zar.of_below Z)).off (zar.of_below T)).off (zar.of_below J)).off (M.mono (fun b I=>Or.inl (by have:b=z:=I;omega)));refine⟨bX,by omega,(show w.heap.size<=D.heap.size by omega),(show D.heap.size≠E.heap.size by omega),rfl,rfl,rfl,rfl,zox ?_,tr.of_block (M.block _ tl (by show ¬ D.heap.size=z;omega)),oX.grow (fun b _ hy=>?_),(St.off (X:=fun b=>b<F.heap.size\/D.heap.size<=b) (c5.off (zar.of_below J)) (M.mono (fun b I=>Or.inl (by have:b=z:=I;omega)))).less (fun b I=>?_)⟩
 ·exact(M.block _ (by omega) (by show ¬ E.heap.size=z;omega)).trans (zat (zat hr T) J)
 ·have:b<w.heap.size\/b=E.heap.size\/b=D.heap.size:=hy;omega
 ·have:b<w.heap.size\/b=E.heap.size\/b=D.heap.size\/b=g:=I;omega
theorem zkO(A:RA)(R:Rl)(w:World)(hR:zaG R=0)(hW:zct w A R) :
  Calls Tryz.prog 73 #[rlV A R] w fun e w' => ∃ (B:RA) (h g:Nat),e=.returned (rlV B R)/\CI w R h g B w' := by
 obtain⟨a0,a1,a2,a3,c0,c1,c2,c3⟩:=A;obtain⟨wf,hl,b0,ht⟩:=zav hR;have d5:=zcG b0;obtain⟨w0,w1,w2,w3⟩:=hW;have D0:Hid (∀ W,Below w.heap.size w W->_):=fun W hW=>YtcbcpomacdngmaaGreat.copy_any a0 c0 R.s W wf.small (zdB wf) (w0.below hW);have D1:Hid (∀ W,Below w.heap.size w W->_):=fun W hW=>zyr a1 c1 R.hs.length (hcL R.hs) W (by omega) (zoz _) (fun e=>by obtain⟨b,o,e2,_⟩:=w1 0 (by omega);rw[e] at e2;cases e2) (ztH (w1.below hW)) (zyO _);have D2:Hid (∀ W,Below w.heap.size w W->_):=fun W hW=>zhH a2 c2 R.i W (by omega) (zkT b0) (w2.below hW);have D3:Hid (∀ W,Below w.heap.size w W->_):=fun W hW=>zfq a3 c3 R.t W (by omega) (w3.below hW);clear w0 w1 w2 w3 d5 b0 wf hR ht;have CC:Hid (∀ (V D M E T X:World) (g gg z:Nat) (kb kc:Nat->Nat),Below w.heap.size w V->Below V.heap.size V D->Own D V.heap.size g R.s kb kc R.s.length->Below D.heap.size D M->M.heap[D.heap.size]?=some (.cells (hcL R.hs).toArray 61 (0,0))->Below M.heap.size M E->St (fun b=>b<M.heap.size\/E.heap.size<=b) (fun V=>zaI V (some ⟨gg,0,none⟩) R.i) E->Below E.heap.size E T->T.rowIs E.heap.size 3 R.t.length (zsl R)->z<V.heap.size->zar (fun b=>b=z) T X->Below w.heap.size w X->CI w R D.heap.size g ⟨some ⟨g,0,none⟩,some ⟨D.heap.size,0,none⟩,some ⟨gg,0,none⟩,some ⟨E.heap.size,0,none⟩,R.s.length,R.hs.length,R.i.length,R.t.length⟩ X):=fun V D M E T X g gg z kb kc h1 h2 h3 h4 h5 h6 h7 h8 h9 c7 c8 c9=>zBh _ _ _ h1 h2 h3 h4 h5 h6 h7 h8 h9 c7 c8 c9;dsimp only[rlV];obtain⟨O,b6⟩:∃ n,R.s.length=n:=⟨_,rfl⟩;obtain⟨U,b4⟩:∃ n,R.hs.length=n:=⟨_,rfl⟩
 obtain⟨Z,b5⟩:∃ n,R.i.length=n:=⟨_,rfl⟩;obtain⟨nt,b7⟩:∃ n,R.t.length=n:=⟨_,rfl⟩;rw[b6] at D0 CC |-;rw[b4] at D1 CC |-;rw[b5] at D2 CC |-;rw[b7] at D3 CC |-;clear b6 b4 b5 b7 hl
 go_enter Tryz.func73,Tryz.ntmps73
 go_wp2_with fail
 obtain⟨V,hV⟩:∃ V,(w.alloc (.cells #[.slice a0 O c0,.slice a1 U c1,.slice a2 Z c2,.slice a3 nt c3] 50)).alloc (.cells #[.slice none 0 0,.slice none 0 0,.slice none 0 0,.slice none 0 0] 50)=V:=⟨_,rfl⟩;have XR:Hid (V.heap[w.heap.size]?=some (.cells #[.slice a0 O c0,.slice a1 U c1,.slice a2 Z c2,.slice a3 nt c3] 50 (0,0))):=by rw[<- hV];exact zat (zci _ _ _ _ _ _) (zaa _ _)
 have XZ:Hid (V.heap[w.heap.size+1]?=some (.cells #[.slice none 0 0,.slice none 0 0,.slice none 0 0,.slice none 0 0] 50 (0,0))):=by
  rw[<- hV];have h:=zci (w.alloc (.cells #[.slice a0 O c0,.slice a1 U c1,.slice a2 Z c2,.slice a3 nt c3] 50)) 50 (.slice none 0 0) (.slice none 0 0) (.slice none 0 0) (.slice none 0 0);rw[ys] at h;exact h
 have BV:Hid (Below w.heap.size w V):=by rw[<- hV];exact zah _ _ _
 rw[hV];clear hV;obtain⟨l0,l1,l2,l3,lf,ll⟩:=zaj XR.out
 go_region_held3 (fun a8=>a8.cell? ⟨w.heap.size,0,none⟩=some (.slice a0 O c0)/\a8.cell? ⟨w.heap.size,1,none⟩=some (.slice a1 U c1)/\a8.cell? ⟨w.heap.size,2,none⟩=some (.slice a2 Z c2)/\a8.cell? ⟨w.heap.size,3,none⟩=some (.slice a3 nt c3)) (go_keep) (first
  |(go_at_call 102;refine yi (D0.out _ BV.out.drew) ?_;rintro e D ⟨g,kb,kc,rfl,b2,b8⟩;have B3:Hid (Below V.heap.size V D):=(yr _ _).drew.trans b2;have O3:Hid (Own D V.heap.size g R.s kb kc O):=b8;have a5:Hid (Below w.heap.size w D):=BV.out.trans (B3.out.mono BV.out.size);have q0:=zab l0 B3.out;have q1:=zab l1 B3.out;have q2:=zab l2 B3.out;have q3:=zab l3 B3.out;clear b2 b8)
  |(go_at_call 103;refine yi (D1.out _ a5.out) ?_;rintro e M ⟨rfl,F,b9⟩;have B4:Hid (Below D.heap.size D M):=F;have R4:Hid _:=b9;have a6:Hid (Below w.heap.size w M):=a5.out.trans (F.mono a5.out.size);have p0:=zab q0 F;have p1:=zab q1 F;have p2:=zab q2 F;have p3:=zab q3 F;clear F b9)
  |(go_at_call 104;refine yi (D2.out _ a6.out) ?_;rintro e E ⟨gg,rfl,I,d4,b3⟩;have B5:Hid (Below M.heap.size M E):=I;have C5:Hid _:=b3;have a7:Hid (Below w.heap.size w E):=a6.out.trans (I.mono a6.out.size);have r0:=zab p0 I;have r1:=zab p1 I;have r2:=zab p2 I;have r3:=zab p3 I;clear I b3 d4)
  |(go_at_call 85;refine yi (D3.out _ a7.out) ?_;rintro e T ⟨rfl,J,c6⟩;have B6:Hid (Below E.heap.size E T):=J;have T6:Hid _:=c6;have b1:Hid (Below w.heap.size w T):=a7.out.trans (J.mono a7.out.size);have u0:=zab r0 J;have u1:=zab r1 J;have u2:=zab r2 J;have u3:=zab r3 J;clear J c6;have a9:Hid _:=zat (zat (zat (zat XZ.out B3.out) B4.out) B5.out) B6.out;obtain⟨t0,t1,t2,t3,tf,tl⟩:=zaj a9.out))
 clear t0 t1 t2 t3 tf tl u0 u1 u2 u3 r0 r1 r2 r3 p0 p1 p2 p3 q0 q1 q2 q3 l0 l1 l2 l3 lf ll;obtain⟨X,hX⟩:∃ X,(((T.setCell ⟨w.heap.size+1,0,none⟩ (.slice (some ⟨g,0,none⟩) O O)).setCell ⟨w.heap.size+1,1,none⟩ (.slice (some ⟨D.heap.size,0,none⟩) U U)).setCell ⟨w.heap.size+1,2,none⟩ (.slice (some ⟨gg,0,none⟩) Z Z)).setCell ⟨w.heap.size+1,3,none⟩ (.slice (some ⟨E.heap.size,0,none⟩) nt nt)=X:=⟨_,rfl⟩;have x0:X.heap[w.heap.size+1]?=some (.cells #[.slice (some ⟨g,0,none⟩) O O,.slice (some ⟨D.heap.size,0,none⟩) U U,.slice (some ⟨gg,0,none⟩) Z Z,.slice (some ⟨E.heap.size,0,none⟩) nt nt] 50 (0,0)):=by rw[<- hX];exact zcR a9.out
 have xo:zar (fun b=>b=w.heap.size+1) T X:=by
  rw[<- hX];exact(((zar.set (X:=fun b=>b=w.heap.size+1) _ _ rfl).trans (zar.set (X:=fun b=>b=w.heap.size+1) _ _ rfl)).trans (zar.set (X:=fun b=>b=w.heap.size+1) _ _ rfl)).trans (zar.set (X:=fun b=>b=w.heap.size+1) _ _ rfl)
 have xb:Below w.heap.size w X:=by
  rw[<- hX];exact(((b1.out.setCell (by simp) _).setCell (by simp) _).setCell (by simp) _).setCell (by simp) _
 rw[hX];clear hX;have C:Hid _:=CC.out V D M E T X g gg (w.heap.size+1) kb kc BV.out B3.out O3.out B4.out R4.out B5.out C5.out B6.out T6.out (zay XZ.out) xo xb;obtain⟨m0,m1,m2,m3,mf,ml⟩:=zaj x0;clear xo xb x0 O3 B3 B4 B5 B6 C5 T6 R4 a9 XZ XR BV a5 a6 a7 b1 CC D0 D1 D2 D3
 go_wp2
 exact yw (v:=.agg #[.slice (some ⟨g,0,none⟩) O O,.slice (some ⟨D.heap.size,0,none⟩) U U,.slice (some ⟨gg,0,none⟩) Z Z,.slice (some ⟨E.heap.size,0,none⟩) nt nt]) (by simp[results,Tryz.results73,go_sem,m0,m1,m2,m3]) rfl ⟨_,_,_,rfl,C.out⟩
end Go.Proofs.YtcbcpomacdngmaaGreat
