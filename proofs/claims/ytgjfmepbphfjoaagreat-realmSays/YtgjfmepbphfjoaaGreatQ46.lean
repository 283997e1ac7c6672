/-
  x
-/
import Derived.Test.YtgjfmepbphfjoaaGreatQ45
namespace Go.Proofs.YtgjfmepbphfjoaaGreat
set_option maxRecDepth 100000
set_option maxHeartbeats 4000000
set_option linter.unusedVariables false
open Go.RowKit Go.ChangeShapes Go.WideShapes
theorem zlW{G:List Cl}(h:zbQ G=0):∀ i,i<G.length->(cl G i).ks.length<=1000:=fun i w=>by
 unfold zbQ at h
 split at h
 ·omega
 ·have:=zdE h i w;unfold zdh at this
  split at this
  ·omega
  ·split at this
   ·omega
   ·omega
def hcL(hs:List (Int × Int)):List Value:=(List.range (hs.length*2)).map (hcF hs)
theorem zka(hs:List (Int × Int)):(hcL hs).length=hs.length*2:=by simp[hcL]
theorem zsr{hs:List (Int × Int)}{j:Nat}{v:Value}(h:(hcL hs)[j]?=some v):j<hs.length*2/\v=hcF hs j:=by
 obtain⟨hl,A⟩:=List.getElem?_eq_some_iff.1 h;have w:=hl;rw[zka] at w;refine⟨w,?_⟩;rw[<- A];simp[hcL]
theorem zrD(hs:List (Int × Int)):∀ v ∈ hcL hs,v.oneCell' = true:=fun v w=>by
 obtain⟨j,_,rfl⟩:=List.mem_map.1 w;rfl
theorem zoc{w:World}{a:Option Addr}{hs:List (Int × Int)}(h:zam w a hs):∀ A,a=some A->∀ j v,(hcL hs)[j]?=some v->w.cell? (A.add j)=some v:=fun A e j v I=>by
 obtain⟨hl,rfl⟩:=zsr I;obtain⟨b,o,e2,h1,F⟩:=h (j / 2) (by omega);rw[e] at e2;cases e2;rw[Addr.add_lit];by_cases D:j % 2=0
 ·have:j=j / 2*2:=by omega
  rw[show o+j=o+j / 2*2 by omega,h1];unfold hcF;rw[yd D]
 ·rw[show o+j=o+j / 2*2+1 by omega,F];unfold hcF;rw[ya D]
theorem zjY{w:World}{h:Nat}{hs:List (Int × Int)}(e:w.heap[h]?=some (.cells (hcL hs).toArray 39 (0,0))):w.rowIs h 39 (hs.length*2) (hcF hs):=by
 refine⟨_,e,?_,fun i A=>?_⟩
 ·simp[zka]
 ·simp[hcL,A]
theorem zro(a:Option Addr)(c n:Nat)(A:List Value)(w:World)(hn:n<=100000)(hl:A.length=n*2)(D:a=none->n=0)(hsrc:∀ F,a=some F->∀ j u,A[j]?=some u->w.cell? (F.add j)=some u)(h1:∀ u ∈ A,u.oneCell' = true) :
  Calls Tryz.prog 71 #[.slice a n c] w fun e w' => e=.returned (.slice (some ⟨w.heap.size,0,none⟩) n n)/\Below w.heap.size w w' /\ w'.heap[w.heap.size]?=some (.cells A.toArray 39 (0,0)):=by
 have hz:(Tryz.prog.info? 39).map (fun i=>(i.zero,i.size,i.bytes))=some (some (.agg #[.int .i64 0,.int .i64 0]),2,16):=by kernel_rfl
 obtain⟨i0,J,a6,O,a7⟩:=info_parts hz
 have a8:∀ w:World,(Instr.makeSlice 25 (.int .i64 (n:Int)) (.int .i64 (n:Int))).run Tryz.prog w=.ok (.slice (some ⟨w.heap.size,0,none⟩) n n) (w.alloc (.cells (madeCells #[.int .i64 0,.int .i64 0] (n*2)) 39)):=fun w=>by
  have h:=run_make (P:=Tryz.prog) w 25 39 i0 _ Tryz.underlying25 J a6 .i64 .i64 n n (by omega) (by omega) (by rw[a7];omega) (by omega);rw[O] at h;simp only[yg] at h;exact h
 have HG:Hid ((w.alloc (.cells (madeCells #[.int .i64 0,.int .i64 0] (n*2)) 39)).heap[w.heap.size]?=some (.cells (madeCells #[.int .i64 0,.int .i64 0] (n*2)).toList.toArray 39 (0,0))):=by
  have:=heap_alloc_new w (.cells (madeCells #[.int .i64 0,.int .i64 0] (n*2)) 39);show _=_;simpa using this
 have a5:Hid (∀ o1:Obj,∀ F,a=some F->∀ j u,A[j]?=some u->(w.alloc o1).cell? (F.add j)=some u):=fun o1 F e j u hj=>by
  have h1:=hsrc F e j u hj;exact((zab w o1).cell (ye _ _ h1)).trans h1
 have Z:Hid (a=none->n=0):=D;have a4:Hid (∀ u ∈ A,u.oneCell' = true):=h1;have V:Hid (A.length=n*2):=hl;clear hsrc D h1 hl
 go_enter Tryz.func71,Tryz.ntmps71
 go_wp2_with (refine zfY rfl (.tmp 7) (.tmp 8) 25 25 rfl 39 i0 2 Tryz.underlying25 J O w.heap.size n n a c rfl rfl (madeCells #[.int .i64 0,.int .i64 0] (n*2)).toList 39 HG.out A V.out (by simp[size_madeCells]) Z.out (a5.out _) a4.out ?_)
 intro w3 M I;have T:Hid (Below w.heap.size w w3):=I.out _ _ (zab _ _) (yi _);have U:Hid _:=M;clear M I
 go_wp2
 go_ret;exact⟨rfl,T.out,U.out⟩
theorem zsN{w:World}{B g:Nat}{S:List Nd}{kb kc:Nat->Nat}(h:Own w B g S kb kc S.length):zhE w g (fun b=>b<B) S:=by
 obtain⟨h0,F,D,I,hg,_⟩:=h;exact⟨by omega,F,D,fun i A=>⟨kb i,kc i,I i A,by have:=hg i A;omega,by have:=hg i A;omega⟩⟩
theorem zsH{w V D F A O X:World}{R:Rl}{g gg z:Nat}{kb kc:Nat->Nat}(c0 c1 c2:Nat)(bV:Below w.heap.size w V)(b3:Below V.heap.size V D)(o3:Own D V.heap.size g R.s kb kc R.s.length)(Z:Below D.heap.size D F)(hr:F.heap[D.heap.size]?=some (.cells (hcL R.hs).toArray 39 (0,0)))
  (T:Below F.heap.size F A) (c5:St (fun b=>b<F.heap.size\/A.heap.size<=b) (fun V=>zaY V (some ⟨gg,0,none⟩) R.i) A) (J:Below A.heap.size A O) (tr:O.rowIs A.heap.size 3 R.t.length (znb R)) (zl:z<V.heap.size) (M:zbA (fun b=>b=z) O X) (bX:Below w.heap.size w X) :
  CI w R D.heap.size g ⟨some ⟨g,0,none⟩,some ⟨D.heap.size,0,none⟩,some ⟨gg,0,none⟩,some ⟨A.heap.size,0,none⟩,c0,c1,c2,R.t.length⟩ X:=by
 have hl:=zaC hr;have tl:=tr.lt;have sV:=bV.size;have s3:=b3.size;have s4:=Z.size;have s5:=T.size;have s6:=J.size;have U:=zsN o3;have gl:=U.lt;have hg:=U.1;have oX:zhE X g (fun b=>b<V.heap.size\/b=D.heap.size\/b=A.heap.size) R.s:=((((U.grow (Y:=fun b=>b<V.heap.size\/b=D.heap.size\/b=A.heap.size) (fun b I hy=>by omega)).off (zbA.of_below Z)).off (zbA.of_below T)).off (zbA.of_below J)).off (M.mono (fun b I=>Or.inl (by have:b=z:=I;omega)));refine⟨bX,by omega,(show w.heap.size<=A.heap.size by omega),(show A.heap.size≠D.heap.size by omega),rfl,rfl,rfl,rfl,zjY ?_,tr.of_block (M.block _ tl (by show ¬ A.heap.size=z;omega)),oX.grow (fun b _ hy=>?_),(St.off (X:=fun b=>b<F.heap.size\/A.heap.size<=b) (c5.off (zbA.of_below J)) (M.mono (fun b I=>Or.inl (by have:b=z:=I;omega)))).less (fun b I=>?_)⟩
 ·exact(M.block _ (by omega) (by show ¬ D.heap.size=z;omega)).trans (zaU (zaU hr T) J)
 ·have:b<w.heap.size\/b=D.heap.size\/b=A.heap.size:=hy;omega
 ·have:b<w.heap.size\/b=D.heap.size\/b=A.heap.size\/b=g:=I;omega
theorem zlO(A:RA)(R:Rl)(w:World)(hR:zaB R=0)(hW:zaS w A R) :
  Calls Tryz.prog 24 #[rlV A R] w fun e w' => ∃ (B:RA) (h g:Nat),e=.returned (rlV B R)/\CI w R h g B w' := by
 obtain⟨a0,a1,a2,a3,c0,c1,c2,c3⟩:=A;obtain⟨wf,hl,a9,ht⟩:=zax hR;have e0:=zeC a9;obtain⟨w0,w1,w2,w3⟩:=hW;have D0:Hid (∀ W,Below w.heap.size w W->_):=fun W hW=>YtgjfmepbphfjoaaGreat.copy_any a0 c0 R.s W wf.small (zbi wf) (w0.below hW);have D1:Hid (∀ W,Below w.heap.size w W->_):=fun W hW=>zro a1 c1 R.hs.length (hcL R.hs) W (by omega) (zka _) (fun e=>by obtain⟨b,o,e2,_⟩:=w1 0 (by omega);rw[e] at e2;cases e2) (zoc (w1.below hW)) (zrD _);have D2:Hid (∀ W,Below w.heap.size w W->_):=fun W hW=>zlI a2 c2 R.i W (by omega) (zlW a9) (w2.below hW);have D3:Hid (∀ W,Below w.heap.size w W->_):=fun W hW=>zed a3 c3 R.t W (by omega) (w3.below hW);clear w0 w1 w2 w3 e0 a9 wf hR ht;have CC:Hid (∀ (V D O F U X:World) (g gg z:Nat) (kb kc:Nat->Nat),Below w.heap.size w V->Below V.heap.size V D->Own D V.heap.size g R.s kb kc R.s.length->Below D.heap.size D O->O.heap[D.heap.size]?=some (.cells (hcL R.hs).toArray 39 (0,0))->Below O.heap.size O F->St (fun b=>b<O.heap.size\/F.heap.size<=b) (fun V=>zaY V (some ⟨gg,0,none⟩) R.i) F->Below F.heap.size F U->U.rowIs F.heap.size 3 R.t.length (znb R)->z<V.heap.size->zbA (fun b=>b=z) U X->Below w.heap.size w X->CI w R D.heap.size g ⟨some ⟨g,0,none⟩,some ⟨D.heap.size,0,none⟩,some ⟨gg,0,none⟩,some ⟨F.heap.size,0,none⟩,R.s.length,R.hs.length,R.i.length,R.t.length⟩ X):=fun V D O F U X g gg z kb kc h1 h2 h3 h4 h5 h6 h7 h8 h9 d6 d7 d8=>zsH _ _ _ h1 h2 h3 h4 h5 h6 h7 h8 h9 d6 d7 d8;dsimp only[rlV];obtain⟨T,b9⟩:∃ n,R.s.length=n:=⟨_,rfl⟩;obtain⟨Z,b7⟩:∃ n,R.hs.length=n:=⟨_,rfl⟩
 obtain⟨ni,b8⟩:∃ n,R.i.length=n:=⟨_,rfl⟩;obtain⟨nt,c6⟩:∃ n,R.t.length=n:=⟨_,rfl⟩;rw[b9] at D0 CC |-;rw[b7] at D1 CC |-;rw[b8] at D2 CC |-;rw[c6] at D3 CC |-;clear b9 b7 b8 c6 hl
 go_enter Tryz.func24,Tryz.ntmps24
 go_wp2_with fail
 obtain⟨V,hV⟩:∃ V,(w.alloc (.cells #[.slice a0 T c0,.slice a1 Z c1,.slice a2 ni c2,.slice a3 nt c3] 31)).alloc (.cells #[.slice none 0 0,.slice none 0 0,.slice none 0 0,.slice none 0 0] 31)=V:=⟨_,rfl⟩;have XR:Hid (V.heap[w.heap.size]?=some (.cells #[.slice a0 T c0,.slice a1 Z c1,.slice a2 ni c2,.slice a3 nt c3] 31 (0,0))):=by rw[<- hV];exact zaU (zbS _ _ _ _ _ _) (zab _ _)
 have XZ:Hid (V.heap[w.heap.size+1]?=some (.cells #[.slice none 0 0,.slice none 0 0,.slice none 0 0,.slice none 0 0] 31 (0,0))):=by
  rw[<- hV];have h:=zbS (w.alloc (.cells #[.slice a0 T c0,.slice a1 Z c1,.slice a2 ni c2,.slice a3 nt c3] 31)) 31 (.slice none 0 0) (.slice none 0 0) (.slice none 0 0) (.slice none 0 0);rw[yk] at h;exact h
 have BV:Hid (Below w.heap.size w V):=by rw[<- hV];exact zai _ _ _
 rw[hV];clear hV;obtain⟨l0,l1,l2,l3,lf,ll⟩:=zaa XR.out
 go_region_held3 (fun a7=>a7.cell? ⟨w.heap.size,0,none⟩=some (.slice a0 T c0)/\a7.cell? ⟨w.heap.size,1,none⟩=some (.slice a1 Z c1)/\a7.cell? ⟨w.heap.size,2,none⟩=some (.slice a2 ni c2)/\a7.cell? ⟨w.heap.size,3,none⟩=some (.slice a3 nt c3)) (go_keep) (first
  |(go_at_call 70;refine yf (D0.out _ BV.out.drew) ?_;rintro e D ⟨g,kb,kc,rfl,b5,c7⟩;have B3:Hid (Below V.heap.size V D):=(yj _ _).drew.trans b5;have O3:Hid (Own D V.heap.size g R.s kb kc T):=c7;have a4:Hid (Below w.heap.size w D):=BV.out.trans (B3.out.mono BV.out.size);have q0:=zac l0 B3.out;have q1:=zac l1 B3.out;have q2:=zac l2 B3.out;have q3:=zac l3 B3.out;clear b5 c7)
  |(go_at_call 71;refine yf (D1.out _ a4.out) ?_;rintro e O ⟨rfl,I,c8⟩;have B4:Hid (Below D.heap.size D O):=I;have R4:Hid _:=c8;have a5:Hid (Below w.heap.size w O):=a4.out.trans (I.mono a4.out.size);have p0:=zac q0 I;have p1:=zac q1 I;have p2:=zac q2 I;have p3:=zac q3 I;clear I c8)
  |(go_at_call 72;refine yf (D2.out _ a5.out) ?_;rintro e F ⟨gg,rfl,J,d9,b6⟩;have B5:Hid (Below O.heap.size O F):=J;have C5:Hid _:=b6;have a6:Hid (Below w.heap.size w F):=a5.out.trans (J.mono a5.out.size);have r0:=zac p0 J;have r1:=zac p1 J;have r2:=zac p2 J;have r3:=zac p3 J;clear J b6 d9)
  |(go_at_call 73;refine yf (D3.out _ a6.out) ?_;rintro e U ⟨rfl,M,c9⟩;have B6:Hid (Below F.heap.size F U):=M;have T6:Hid _:=c9;have b4:Hid (Below w.heap.size w U):=a6.out.trans (M.mono a6.out.size);have u0:=zac r0 M;have u1:=zac r1 M;have u2:=zac r2 M;have u3:=zac r3 M;clear M c9;have a8:Hid _:=zaU (zaU (zaU (zaU XZ.out B3.out) B4.out) B5.out) B6.out;obtain⟨t0,t1,t2,t3,tf,tl⟩:=zaa a8.out))
 clear t0 t1 t2 t3 tf tl u0 u1 u2 u3 r0 r1 r2 r3 p0 p1 p2 p3 q0 q1 q2 q3 l0 l1 l2 l3 lf ll;obtain⟨X,hX⟩:∃ X,(((U.setCell ⟨w.heap.size+1,0,none⟩ (.slice (some ⟨g,0,none⟩) T T)).setCell ⟨w.heap.size+1,1,none⟩ (.slice (some ⟨D.heap.size,0,none⟩) Z Z)).setCell ⟨w.heap.size+1,2,none⟩ (.slice (some ⟨gg,0,none⟩) ni ni)).setCell ⟨w.heap.size+1,3,none⟩ (.slice (some ⟨F.heap.size,0,none⟩) nt nt)=X:=⟨_,rfl⟩;have x0:X.heap[w.heap.size+1]?=some (.cells #[.slice (some ⟨g,0,none⟩) T T,.slice (some ⟨D.heap.size,0,none⟩) Z Z,.slice (some ⟨gg,0,none⟩) ni ni,.slice (some ⟨F.heap.size,0,none⟩) nt nt] 31 (0,0)):=by rw[<- hX];exact zbl a8.out
 have xo:zbA (fun b=>b=w.heap.size+1) U X:=by
  rw[<- hX];exact(((zbA.set (X:=fun b=>b=w.heap.size+1) _ _ rfl).trans (zbA.set (X:=fun b=>b=w.heap.size+1) _ _ rfl)).trans (zbA.set (X:=fun b=>b=w.heap.size+1) _ _ rfl)).trans (zbA.set (X:=fun b=>b=w.heap.size+1) _ _ rfl)
 have xb:Below w.heap.size w X:=by
  rw[<- hX];exact(((b4.out.setCell (by simp) _).setCell (by simp) _).setCell (by simp) _).setCell (by simp) _
 rw[hX];clear hX;have C:Hid _:=CC.out V D O F U X g gg (w.heap.size+1) kb kc BV.out B3.out O3.out B4.out R4.out B5.out C5.out B6.out T6.out (zaC XZ.out) xo xb;obtain⟨m0,m1,m2,m3,mf,ml⟩:=zaa x0;clear xo xb x0 O3 B3 B4 B5 B6 C5 T6 R4 a8 XZ XR BV a4 a5 a6 b4 CC D0 D1 D2 D3
 go_wp2
 exact yq (v:=.agg #[.slice (some ⟨g,0,none⟩) T T,.slice (some ⟨D.heap.size,0,none⟩) Z Z,.slice (some ⟨gg,0,none⟩) ni ni,.slice (some ⟨F.heap.size,0,none⟩) nt nt]) (by simp[results,Tryz.results24,go_sem,m0,m1,m2,m3]) rfl ⟨_,_,_,rfl,C.out⟩
def zit(K:Nat)(D:Array Value)(w:World)(R:Rl)(x:Ac)(q:Rs):Prop:=∀ (d h g:Nat) (A:RA) (V:World),WI w R d h g A V ->
 Calls Tryz.prog K (#[.pointer (some ⟨d,0,none⟩),acV x] ++ D) V fun e F=>∃ o:Int,e=.returned (.tuple #[.int .i64 o,.int .i64 q.e])/\Below w.heap.size w F/\(q.e=0->o=q.o/\∃ B:RA,F.heap[d]?=some (bxR B q.r)/\RlF w.heap.size d F B q.r)
theorem zhG(E:Int)(Q:Rl)(o:Int):(ans E Q o).e=E:=by
 unfold ans;by_cases h:E=0
 ·rw[yd h];exact h.symm
 ·rw[ya h]
theorem zhF{E:Int}(h:E=0)(Q:Rl)(o:Int):ans E Q o=⟨0,Q,o⟩:=yd h
theorem WI.rl{w V:World}{R:Rl}{d h g:Nat}{A:RA}(I:WI w R d h g A V):RlF w.heap.size d V A R :=
 ⟨I.a3,I.c3,I.t0,I.td,I.tr,fun F D=>⟨by rw[I.a0];exact I.own.st.less (fun b J=>by omega) F D,by rw[I.a1];exact zfj (I.row.of_block (D.block h I.row.lt (by have:=I.h0;have:=I.dh;have:=I.th;omega))),I.cls.less (fun b J=>by omega) F D⟩⟩
theorem WI.store{w V:World}{R:Rl}{d h g:Nat}{A:RA}(I:WI w R d h g A V){a:Option Addr}{T:List Nd}(c:Nat){N:Nat}(hn:St (fun b=>b<N) (fun V=>zae V a T) V)(O:w.heap.size<=N/\d<N/\h<N/\tOf A<N) :
  Below w.heap.size w (V.setCell ⟨d,0,none⟩ (.slice a T.length c))/\(V.setCell ⟨d,0,none⟩ (.slice a T.length c)).heap[d]?=some (bxR ⟨a,A.a1,A.a2,A.a3,c,A.c1,A.c2,A.c3⟩ ⟨T,R.hs,R.i,R.t⟩)/\RlF w.heap.size d (V.setCell ⟨d,0,none⟩ (.slice a T.length c)) ⟨a,A.a1,A.a2,A.a3,c,A.c1,A.c2,A.c3⟩ ⟨T,R.hs,R.i,R.t⟩:=by
 have J:∀ X:Nat->Prop,X d->zbA X V (V.setCell ⟨d,0,none⟩ (.slice a T.length c)):=fun X hx=>zbA.set V _ hx;have hr:=I.rl;refine⟨I.bel.setCell I.d0 _,zbB I.box,hr.a3,hr.c3,hr.t0,hr.td,hr.tr.setOther hr.td _,fun D F=>⟨hn D ((J _ O.2.1).trans (F.mono (fun b M=>?_))),(hr.st D ((J _ (Or.inr (Or.inl rfl))).trans F)).2⟩⟩;have U:b<w.heap.size\/b=d\/b=tOf A:=M;show b<N;omega
theorem zlw{V:World}{h:Nat}{hs:List (Int × Int)}(hr:V.rowIs h 39 (hs.length*2) (hcF hs)){k:Nat}(w:k<hs.length)(y:Int × Int):((V.setCell ⟨h,k*2,none⟩ (.int .i64 y.1)).setCell ⟨h,k*2+1,none⟩ (.int .i64 y.2)).rowIs h 39 ((hs.set k y).length*2) (hcF (hs.set k y)):=by
 rw[List.length_set,<- zrC hs k y w];exact(hr.set (k*2) _).set (k*2+1) _
theorem zlo{X:Nat->Prop}{h:Nat}(V:World)(hx:X h)(o w:Nat)(u v:Value):zbA X V ((V.setCell ⟨h,o,none⟩ u).setCell ⟨h,w,none⟩ v):=(zbA.set V u hx).trans (zbA.set _ v hx)
theorem WI.setHand{w V:World}{R:Rl}{d h g:Nat}{A:RA}(I:WI w R d h g A V){k:Nat}(T:k<R.hs.length)(y:Int × Int){D:World}(O:D=(V.setCell ⟨h,k*2,none⟩ (.int .i64 y.1)).setCell ⟨h,k*2+1,none⟩ (.int .i64 y.2)) :
  Below w.heap.size w D/\D.heap[d]?=some (bxR A ⟨R.s,R.hs.set k y,R.i,R.t⟩)/\RlF w.heap.size d D A ⟨R.s,R.hs.set k y,R.i,R.t⟩:=by
 subst O;have h1:=zlw I.row T y;have F:=I.box;have M:=zlo (X:=fun b=>b<w.heap.size\/b=d\/b=h\/b=tOf A) V (Or.inr (Or.inr (Or.inl rfl))) (k*2) (k*2+1) (.int .i64 y.1) (.int .i64 y.2);refine⟨(I.bel.setCell I.h0 _).setCell I.h0 _,?_,I.a3,I.c3,I.t0,I.td,(I.tr.setOther I.th _).setOther I.th _,fun D J=>⟨by rw[I.a0];exact I.own.st D (M.trans (J.mono (fun b F=>by omega))),by rw[I.a1];exact zfj (h1.of_block (J.block h h1.lt (by have:=I.h0;have:=I.dh;have:=I.th;omega))),I.cls D ((M.mono (fun b F=>by omega)).trans (J.mono (fun b F=>by omega)))⟩⟩;rw[yo _ _ _ _ (Ne.symm I.dh),yo _ _ _ _ (Ne.symm I.dh),F];dsimp only[bxR];rw[List.length_set]
theorem WI.storeHand{w V:World}{R:Rl}{d h g:Nat}{A:RA}(I:WI w R d h g A V){a:Option Addr}{T:List Nd}(c:Nat){N:Nat}(hn:St (fun b=>b<N) (fun V=>zae V a T) V)(F:w.heap.size<=N/\d<N/\h<N/\tOf A<N){k:Nat}(hk:k<R.hs.length)(y:Int × Int){D:World}(hV:D=((V.setCell ⟨d,0,none⟩ (.slice a T.length c)).setCell ⟨h,k*2,none⟩ (.int .i64 y.1)).setCell ⟨h,k*2+1,none⟩ (.int .i64 y.2)) :
  Below w.heap.size w D/\D.heap[d]?=some (bxR ⟨a,A.a1,A.a2,A.a3,c,A.c1,A.c2,A.c3⟩ ⟨T,R.hs.set k y,R.i,R.t⟩)/\RlF w.heap.size d D ⟨a,A.a1,A.a2,A.a3,c,A.c1,A.c2,A.c3⟩ ⟨T,R.hs.set k y,R.i,R.t⟩:=by
 subst hV;obtain⟨b1,x1,J⟩:=I.store c hn F;have h1:=zlw (I.row.setOther (a:=⟨d,0,none⟩) I.dh (.slice a T.length c)) hk y;have O:∀ X:Nat->Prop,X d->zbA X V (V.setCell ⟨d,0,none⟩ (.slice a T.length c)):=fun X hx=>zbA.set V _ hx;have U:=fun X (hx:X h)=>zlo (X:=X) (V.setCell ⟨d,0,none⟩ (.slice a T.length c)) hx (k*2) (k*2+1) (.int .i64 y.1) (.int .i64 y.2);refine⟨(b1.setCell I.h0 _).setCell I.h0 _,?_,J.a3,J.c3,J.t0,J.td,(J.tr.setOther (a:=⟨h,k*2,none⟩) I.th _).setOther (a:=⟨h,k*2+1,none⟩) I.th _,fun D M=>⟨hn D (((O _ F.2.1).trans (U _ F.2.2.1)).trans (M.mono (fun b Z=>?_))),?_,I.cls D (((O _ (Or.inr (Or.inl rfl))).trans (U _ (Or.inr (Or.inr (Or.inl rfl))))).trans (M.mono (fun b F=>?_)))⟩⟩
 ·rw[yo _ _ _ _ (Ne.symm I.dh),yo _ _ _ _ (Ne.symm I.dh),x1];dsimp only[bxR];rw[List.length_set]
 ·have h4:b<w.heap.size\/b=d\/b=tOf A:=Z;show b<N;omega
 ·show zam _ A.a1 _;rw[I.a1];exact zfj (h1.of_block (M.block h h1.lt (by show ¬ (h<w.heap.size\/h=d\/h=tOf A);have:=I.h0;have:=I.dh;have:=I.th;omega)))
 ·have h4:b<w.heap.size\/b=d\/b=tOf A:=F;omega
theorem WI.setMark{w V:World}{R:Rl}{d h g:Nat}{A:RA}(I:WI w R d h g A V){k:Nat}(Z:k<R.s.length)(n:Int){D:World}(T:D=V.setCell ⟨g,k*8+3,none⟩ (.int .i64 n)) :
  Below w.heap.size w D/\D.heap[d]?=some (bxR A ⟨R.s.set k { nd R.s k with m:=n },R.hs,R.i,R.t⟩)/\RlF w.heap.size d D A ⟨R.s.set k { nd R.s k with m:=n },R.hs,R.i,R.t⟩:=by
 subst T;obtain⟨M,O,hg,tg⟩:=I.gs;have J:=I.row.setOther (a:=⟨g,k*8+3,none⟩) hg (.int .i64 n);refine⟨I.bel.setCell M _,?_,I.a3,I.c3,I.t0,I.td,I.tr.setOther tg _,fun D F=>⟨by rw[I.a0];exact(I.own.mark Z n).st D (F.mono (fun b U=>by omega)),by rw[I.a1];exact zfj (J.of_block (F.block h J.lt (by have:=I.h0;have:=I.dh;have:=I.th;omega))),I.cls D ((zbA.set V _ (by omega)).trans (F.mono (fun b U=>by omega)))⟩⟩;rw[yo _ _ _ _ (Ne.symm O),I.box];dsimp only[bxR];rw[List.length_set]
theorem zsO{V w w3:World}{a:Option Addr}{T:List Nd}(c t:Nat)(A:Below V.heap.size V w)(b3:Below w.heap.size w w3)(F:St (fun b=>b<w.heap.size) (fun V=>zae V a T) w3) :
  Hid (Below V.heap.size V (w3.alloc (.cells #[.slice a T.length c] t)))/\Hid (St (fun b=>b<V.heap.size) (fun V=>zae V a T) (w3.alloc (.cells #[.slice a T.length c] t)))/\(w3.alloc (.cells #[.slice a T.length c] t)).cell? ⟨w3.heap.size,0,none⟩=some (.slice a T.length c)/\V.heap.size<=w3.heap.size:=by
 have b:=A.trans (b3.mono A.size);have I:=A.size;exact⟨b.trans ((zab _ _).mono b.size),(F.less (fun b D=>by show b<w.heap.size;have:b<V.heap.size:=D;omega)).off (zbA.of_below (zab _ _)),zad _ _ _ 0 rfl,b.size⟩
theorem zsP{V w w3:World}{a:Option Addr}{T:List Nd}(c:Nat){t:Nat}(A:Below V.heap.size V w)(b3:Below w.heap.size w w3)(F:St (fun b=>b<w.heap.size+1) (fun V=>zae V a T) w3)(I:w3.heap[w.heap.size]?=some (.cells #[.slice none 0 0] t (0,0))) :
  Hid (Below V.heap.size V (w3.setCell ⟨w.heap.size,0,none⟩ (.slice a T.length c)))/\Hid (St (fun b=>b<V.heap.size) (fun V=>zae V a T) (w3.setCell ⟨w.heap.size,0,none⟩ (.slice a T.length c)))/\(w3.setCell ⟨w.heap.size,0,none⟩ (.slice a T.length c)).cell? ⟨w.heap.size,0,none⟩=some (.slice a T.length c)/\V.heap.size<=w.heap.size:=by
 have b:=A.trans (b3.mono A.size);have J:=A.size;exact⟨b.setCell A.size _,(F.off (zbA.set w3 _ (by show w.heap.size<w.heap.size+1;omega))).less (fun b D=>by show b<w.heap.size+1;have:b<V.heap.size:=D;omega),zbr (zbB (i:=0) I),A.size⟩
theorem zhg(F:Nat)(eg:∀ args w,(callFunc F args).run Tryz.prog w=.ok (.enter F args) w)(cb:Nat)(w:World)(hc:w.cell? ⟨cb,0,none⟩=some (.func (.func F) #[] #[]))(R:Rl)(x:Ac)(hl:R.hs.length=16)(ha:isH x.a)(T:List Nd)(E:Int)(hF:zjJ F R.s (rS E T) #[hdV (hd R x.a)] E) :
  zit 102 #[.pointer (some ⟨cb,0,none⟩)] w R x (ans E ⟨T,R.hs,R.i,R.t⟩ 0):=fun d h g A V I=>by
 rw[zhG];obtain⟨a0,a1,a2,a3,c0,c1,c2,c3⟩:=A;obtain rfl:a0=some ⟨g,0,none⟩:=I.a0;obtain rfl:a1=some ⟨h,0,none⟩:=I.a1;obtain⟨xk,xa,xb,xc,xn⟩:=x;obtain⟨p,hp,b5⟩:=zjc ha;dsimp only at hp;subst hp;obtain⟨u0,u1⟩:=I.hand (k:=p) (by omega);have II:Hid (WI w R d h g _ V):=I;have D:Hid (∀ W,Below V.heap.size V W->Calls Tryz.prog F #[.agg #[.slice (some ⟨g,0,none⟩) R.s.length c0],.agg #[.int .i64 (hd R (p:Int)).1,.int .i64 (hd R (p:Int)).2]] W fun e w' => ∃ a' c', e=.returned (.tuple #[.agg #[.slice a' (rS E T).length c'],.int .i64 E])/\Below W.heap.size W w' /\ St (fun b=>b<W.heap.size) (fun V=>zae V a' (rS E T)) w'):=fun W hW=>hF (some ⟨g,0,none⟩) c0 W (I.nds.below hW);have k0:=(I.bel.cell (ye _ _ hc)).trans hc;obtain⟨l0,l1,l2,l3,fz,lt⟩:=zaa I.box;dsimp only at l0 l1 l2 l3;rw[hl] at l1;clear hF;generalize hd R (p:Int)=hh at *;obtain⟨P,U⟩:=hh;have a8:d<V.heap.size:=lt;have a9:h<V.heap.size:=ye _ _ u0;have a7:cb<V.heap.size:=ye _ _ k0;show Calls Tryz.prog _ #[.pointer (some ⟨d,0,none⟩),.agg #[.int .i64 xk,.int .i64 p,.int .i64 xb,.int .i64 xc,.int .i64 xn],.pointer (some ⟨cb,0,none⟩)] V _;clear hl ha I hc;obtain⟨ns,b4⟩:∃ n,R.s.length=n:=⟨_,rfl⟩;rw[b4] at D l0;have b8:(p:Int)<16:=by omega
 go_enter Tryz.func102,Tryz.ntmps102
 go_upto_region 1 with fail
 obtain⟨J,a5⟩:∃ J,V.alloc (.cells #[.int .i64 xk,.int .i64 p,.int .i64 xb,.int .i64 xc,.int .i64 xn] 41)=J:=⟨_,rfl⟩;have BV:Hid (Below V.heap.size V J):=by rw[<- a5];exact zab _ _
 have y1:J.cell? ⟨V.heap.size,1,none⟩=some (.int .i64 p):=by rw[<- a5];exact zad _ _ _ 1 rfl
 have sV:V.heap.size<J.heap.size:=ye _ _ y1;rw[a5];clear a5;replace u0:=zac u0 BV.out;replace u1:=zac u1 BV.out;replace l0:=zac l0 BV.out;replace l1:=zac l1 BV.out;replace k0:=zac k0 BV.out;have b7:d<V.heap.size:=lt;have n1:¬ J.heap.size=cb:=by omega
 have n2:¬ J.heap.size=d:=by omega
 have n3:¬ J.heap.size=h:=by omega
 have n4:¬ J.heap.size=V.heap.size:=by omega
 have b9:¬ cb=J.heap.size:=by omega
 have c6:¬ d=J.heap.size:=by omega
 have c7:¬ h=J.heap.size:=by omega
 have c8:¬ V.heap.size=J.heap.size:=by omega
 replace a8:d<J.heap.size:=by omega
 replace a9:h<J.heap.size:=by omega
 replace a7:cb<J.heap.size:=by omega
 clear l2 l3 fz lt
 go_cut [7,8] (fun s7 s8 wx=>∃ (b:Nat) (a' : Option Addr) (c' : Nat),s7=.pointer (some ⟨b,0,none⟩)/\s8=.int .i64 E/\Hid (Below V.heap.size V wx)/\Hid (St (fun b=>b<V.heap.size) (fun V=>zae V a' (rS E T)) wx)/\wx.cell? ⟨b,0,none⟩=some (.slice a' (rS E T).length c')/\V.heap.size<=b)
 case first =>
  go_region_held3 (fun Z=>Z.cell? ⟨cb,0,none⟩=some (.func (.func F) #[] #[])/\Z.cell? ⟨d,0,none⟩=some (.slice (some ⟨g,0,none⟩) ns c0)/\Z.cell? ⟨d,1,none⟩=some (.slice (some ⟨h,0,none⟩) 16 c1)/\Z.cell? ⟨h,p*2,none⟩=some (.int .i64 P)/\Z.cell? ⟨h,p*2+1,none⟩=some (.int .i64 U)/\Z.cell? ⟨V.heap.size,1,none⟩=some (.int .i64 p)) (go_keep) (first|(refine yf (D.out J.drew BV.out.drew) ?_;rintro e w3 ⟨a', c', rfl,O,a4⟩;have M:Hid (Below J.heap.size J w3):=(yj _ _).drew.trans O;have N3:Hid (St (fun b=>b<J.heap.size) (fun V=>zae V a' (rS E T)) w3):=a4;have g0:=zac k0 M.out;have g1:=zac l0 M.out;have g2:=zac l1 M.out;have g3:=zac u0 M.out;have g4:=zac u1 M.out;have g5:=zac y1 M.out;clear O a4)|(refine yf (D.out (J.alloc (.cells #[.slice none 0 0] 24)).drew (BV.out.trans ((zab J _).mono BV.out.size)).drew) ?_;rintro e w3 ⟨a', c', rfl,O,a4⟩;have M:Hid (Below J.heap.size J w3):=(zab J _).drew.trans (O.mono (by simp));have N3:Hid (St (fun b=>b<J.heap.size+1) (fun V=>zae V a' (rS E T)) w3):=(by have h:=a4;simp only[yk,World.size_drew] at h;exact h);have g0:=zac k0 M.out;have g1:=zac l0 M.out;have g2:=zac l1 M.out;have g3:=zac u0 M.out;have g4:=zac u1 M.out;have g5:=zac y1 M.out;have X3:Hid (w3.heap[J.heap.size]?=some (.cells #[.slice none 0 0] 24 (0,0))):=zaU (W:=(J.alloc (.cells #[.slice none 0 0] 24)).drew) (heap_alloc_new J _) O;have x3:=zbr X3.out;have xf:=zbD (o:=0) X3.out;have xl:J.heap.size<w3.heap.size:=zaC X3.out;clear O a4))
  ·go_wp2_with fail
   go_meet
   case rel=>exact⟨_,_,_,rfl,rfl,zsO _ _ BV.out M.out N3.out⟩
  ·go_wp2_with fail
   go_meet
   case rel=>exact⟨_,_,_,rfl,rfl,zsP _ BV.out M.out N3.out X3.out⟩
 case rest =>
  obtain⟨b,a', c', rfl,rfl,HB,HN,a6,b6⟩:=hcut;have I2:Hid _:=II.out.below HB.out;have hS:=I2.out.store c' HN.out II.out.base;have HS:Hid _:=hS;obtain⟨m0,m1,m2,m3,mf,ml⟩:=zaa I2.out.box;have bl:b<wc.heap.size:=ye _ _ a6;have c9:¬ b=d:=by omega
  clear hS II D u0 u1 l0 l1 k0 y1
  go_wp2
  refine yq (v:=.tuple #[.int .i64 0,.int .i64 E]) (by simp[results,Tryz.results102,go_sem]) rfl ⟨0,rfl,HS.out.1,fun hE=>?_⟩;rw[zhF hE];have h2:=HS.out.2;rw[hE,zdv] at h2;rw[hE,zdv];exact⟨rfl,_,h2⟩
end Go.Proofs.YtgjfmepbphfjoaaGreat
