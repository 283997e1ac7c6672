/-
  x
-/
import Derived.Test.YtcbcpomacdngmaaGreatA36
namespace Go.Proofs.YtcbcpomacdngmaaGreat
set_option maxRecDepth 100000
set_option maxHeartbeats 4000000
set_option linter.unusedVariables false
open Go.RowKit Go.ChangeShapes Go.WideShapes Tryz
variable{V E w:Wd}{W:Wl}{d me c B n k e size i g cap:Nat}{a:OA}{X:Nat->Prop}{q:List Ml}{V':World}{I:List Value}{Q:World->Prop}
def App(X:Nat->Prop)(B:Nat)(e size:Nat)(a:OA)(n c:Nat)(E:List Value)(t:Option Nat)(V:Wd):Prop :=
 E.length=n*size/\((t=none/\c=n/\((a=none->n=0)/\∀ D,a=some D->∃ b o,D=⟨b,o,none⟩)/\St X (fun V=>∀ D,a=some D->∀ j u,E[j]?=some u->V.cell? (D.add j)=some u) V) \/
  (∃ b,t=some b/\a=some ⟨b,0,none⟩/\V.ownsRow B e size (.slice a n c) n E))
theorem App.kept{Y:Nat->Prop}{J:List Value}{t:Option Nat}(h:App X B e size a n c J t V)(T:aC X V E)(O:∀ b,b<V.heap.size->Y b->X b)(hb:∀ b,t=some b->E.heap[b]?=V.heap[b]?):App Y B e size a n c J t E:=by
 refine⟨h.1,?_⟩;rcases h.2 with ⟨h1,D,F,M⟩ |⟨b,h1,D,F⟩
 ·exact .inl ⟨h1,D,F,M.grow T O⟩
 ·refine .inr ⟨b,h1,D,fG F (fun k I=>?_)⟩;rw[D] at I;cases I;exact hb b h1
theorem App.lt{F:List Value}{t:Option Nat}(h:App X B e size a n c F t V):∀ b,t=some b->b<V.heap.size/\B<=b:=fun b hb=>by
 rcases h.2 with ⟨h1,_⟩ |⟨I,h1,D,E⟩
 ·rw[hb] at h1;cases h1
 ·rw[hb] at h1;cases h1;exact⟨(E.lt b (by rw[D];rfl)).2,(E.lt b (by rw[D];rfl)).1⟩
theorem App.read{t:Option Nat}(h:App X B e size a n c I t V):(a=none->n=0)/\∀ D,a=some D->∀ j u,I[j]?=some u->V.cell? (D.add j)=some u:=by
 rcases h.2 with ⟨h1,F,E,J⟩ |⟨b,h1,F,E⟩
 ·exact⟨E.1,J.at⟩
 ·subst F;refine⟨(fun e=>by cases e),fun D e j u M=>?_⟩;cases e;exact E.cells rfl j u M
theorem App.lit{t:Option Nat}(h:App X B e size a n c I t V):∀ D,a=some D->∃ b o,D=⟨b,o,none⟩:=by
 rcases h.2 with ⟨_,_,F,_⟩ |⟨b,_,E,_⟩
 ·exact F.2
 ·intro D e;rw[E] at e;cases e;exact⟨_,_,rfl⟩
def iL(q:List Ml)(G:Nat->Option Addr × Nat):List Value:=(List.range q.length).flatMap fun i=>[.int .i64 (ml q i).f,.slice (G i).1 (ml q i).g.length (G i).2]
theorem zR(q:List Ml)(G:Nat->Option Addr × Nat):∀ m,((List.range m).flatMap fun i=>[Value.int .i64 (ml q i).f,.slice (G i).1 (ml q i).g.length (G i).2]).length=m*2
 | 0=>rfl
 | m+1=>by rw[List.range_succ,List.flatMap_append,List.length_append,zR q G m];simp;omega
theorem GR(q:List Ml)(G:Nat->Option Addr × Nat):(iL q G).length=q.length*2:=zR q G _
theorem NM(q:List Ml)(G:Nat->Option Addr × Nat){i j:Nat}(D:j<2):∀ {m:Nat},i<m->((List.range m).flatMap fun i=>[Value.int .i64 (ml q i).f,.slice (G i).1 (ml q i).g.length (G i).2])[i*2+j]?=[Value.int .i64 (ml q i).f,.slice (G i).1 (ml q i).g.length (G i).2][j]?
 | 0,hi=>oaa
 | m+1,hi=>by
  rw[List.range_succ,List.flatMap_append];by_cases h:i<m
  ·rw[List.getElem?_append_left (by rw[zR];omega),NM q G D h]
  ·obtain rfl:i=m:=oaa
   rw[List.getElem?_append_right (by rw[zR];omega),zR];simp
theorem zS{G:Nat->Option Addr × Nat}(hi:i<q.length):(iL q G)[i*2]?=some (.int .i64 (ml q i).f)/\(iL q G)[i*2+1]?=some (.slice (G i).1 (ml q i).g.length (G i).2):=⟨NM q G (j:=0) oaa hi,NM q G (j:=1) oaa hi⟩
theorem YU{m:Ml}(h:i<q.length):ml (q++[m]) i=ml q i:=by
 unfold ml;simp[List.getD_eq_getElem?_getD,List.getElem?_append_left h]
theorem YV(q:List Ml)(m:Ml):ml (q++[m]) q.length=m:=by
 unfold ml;simp[List.getD_eq_getElem?_getD]
theorem Vg(q:List Ml)(G:Nat->Option Addr × Nat)(m:Ml)(g:OA × Nat):iL q G++[.int .i64 m.f,.slice g.1 m.g.length g.2]=iL (q++[m]) (fun i=>if i=q.length then g else G i):=by
 unfold iL;rw[List.length_append,List.length_singleton,List.range_succ,List.flatMap_append]
 congr 1
 ·have:∀ i ∈ List.range q.length,[Value.int .i64 (ml q i).f,.slice (G i).1 (ml q i).g.length (G i).2]=[Value.int .i64 (ml (q++[m]) i).f,.slice (if i=q.length then g else G i).1 (ml (q++[m]) i).g.length (if i=q.length then g else G i).2]:=fun i hi=>by
   have hi:=List.mem_range.1 hi;rw[YU hi,yd oaa]
  simp only[List.flatMap_def];rw[List.map_congr_left this]
 ·simp[YV]
structure SD where
 a0:OA
 c0:Nat
 a4:OA
 c4:Nat
 g1:Nat
 g2:Nat
 g3:Nat
 R:Nat->RA
 P:Nat->Option Addr × Nat
 Q:Nat->Option Addr × Nat
 G:Nat->Nat->Option Addr × Nat
 t:Option Nat
 q:Nat->Option Nat
def SX(B d:Nat)(s:SD)(b:Nat):Prop:=b<B\/b=d\/b=s.g1\/b=s.g2\/b=s.g3\/s.t=some b\/∃ i,s.q i=some b
structure SDp (B d me:Nat) (W:Wl) (s:SD) (V:Wd):Prop where
 fr:St (SX B d s) (fun V=>aS V s.a0 W.fs) V
 fc:SlA s.a0 W.fs.length s.c0
 rl:∀ i,i<W.fs.length->St (SX B d s) (fun V=>aD V (s.R i).a0 (rlm W i).s/\aZ V (s.R i).a1 (rlm W i).hs/\aO V (s.R i).a2 (rlm W i).i) V
 tl:∀ i,i<W.fs.length->i≠me->St (SX B d s) (fun V=>aG V (s.R i).a3 (rlm W i).t) V
 ts:App (SX B d s) B 3 1 (s.R me).a3 (rlm W me).t.length (s.R me).c3 ((rlm W me).t.map (Value.int .i64)) s.t V
 pr:∀ i,i<W.fs.length->St (SX B d s) (fun V=>dY V (s.P i).1 (prg W i)) V
 qg:∀ i,i<W.fs.length->∀ j,j<(que W i).length->St (SX B d s) (fun V=>aO V (s.G i j).1 (ml (que W i) j).g) V
 qs:∀ i,i<W.fs.length->App (SX B d s) B 53 2 (s.Q i).1 (que W i).length (s.Q i).2 (iL (que W i) (s.G i)) (s.q i) V
 pt:bU (SX B d s) V s.a4 W.pt
 pc:SlA s.a4 W.pt.length s.c4
structure SAp (B d n:Nat) (s:SD):Prop where
 d0:B<=d
 g1:B<=s.g1
 g2:B<=s.g2
 g3:B<=s.g3
 d1:d≠s.g1
 d2:d≠s.g2
 d3:d≠s.g3
 g12:s.g1≠s.g2
 g13:s.g1≠s.g3
 g23:s.g2≠s.g3
 tt:∀ b,s.t=some b->b≠d/\b≠s.g1/\b≠s.g2/\b≠s.g3/\∀ i,s.q i≠some b
 qq:∀ i b,s.q i=some b->i<n/\b≠d/\b≠s.g1/\b≠s.g2/\b≠s.g3/\∀ j,s.q j=some b->j=i
def jW(W:Wl)(R:Nat->RA)(j:Nat):Value :=
 if j % 4=0 then .slice (R (j / 4)).a0 (rlm W (j / 4)).s.length (R (j / 4)).c0
 else if j % 4=1 then .slice (R (j / 4)).a1 (rlm W (j / 4)).hs.length (R (j / 4)).c1
 else if j % 4=2 then .slice (R (j / 4)).a2 (rlm W (j / 4)).i.length (R (j / 4)).c2
 else .slice (R (j / 4)).a3 (rlm W (j / 4)).t.length (R (j / 4)).c3
theorem qV(W:Wl)(R:Nat->RA)(i:Nat):jW W R (i*4)=.slice (R i).a0 (rlm W i).s.length (R i).c0:=by unfold jW;rw[ye oaa,show i*4 / 4=i by omega]
theorem qW(W:Wl)(R:Nat->RA)(i:Nat):jW W R (i*4+1)=.slice (R i).a1 (rlm W i).hs.length (R i).c1:=by unfold jW;rw[yd oaa,ye oaa,show (i*4+1) / 4=i by omega]
theorem sQ(W:Wl)(R:Nat->RA)(i:Nat):jW W R (i*4+2)=.slice (R i).a2 (rlm W i).i.length (R i).c2:=by unfold jW;rw[yd oaa,yd oaa,ye oaa,show (i*4+2) / 4=i by omega]
theorem sS(W:Wl)(R:Nat->RA)(i:Nat):jW W R (i*4+3)=.slice (R i).a3 (rlm W i).t.length (R i).c3:=by unfold jW;rw[yd oaa,yd oaa,yd oaa,show (i*4+3) / 4=i by omega]
theorem NN{E:Wl}{R D:Nat->RA}{j:Nat}(h:rlm E (j / 4)=rlm W (j / 4))(F:D (j / 4)=R (j / 4)):jW E D j=jW W R j:=by unfold jW;rw[h,F]
structure W0 where
 w:World
 P:World->Prop
abbrev W0.heap(x:W0):=x.w.heap
structure SW (w0:W0) (d me:Nat) (W:Wl) (s:SD) (V:Wd):Prop where
 bel:Below w0.heap.size w0.w V
 rt:aI W
 sf:me<W.fs.length
 ap:SAp w0.heap.size d W.fs.length s
 box:V.heap[d]?=some (.cells #[.slice s.a0 W.fs.length s.c0,.slice (some ⟨s.g1,0,none⟩) W.fs.length W.fs.length,.slice (some ⟨s.g2,0,none⟩) W.fs.length W.fs.length,.slice (some ⟨s.g3,0,none⟩) W.fs.length W.fs.length,.slice s.a4 W.pt.length s.c4] 28 (0,0))
 r1:V.rowIs s.g1 50 (W.fs.length*4) (jW W s.R)
 r2:V.rowIs s.g2 34 W.fs.length (fun i=>.slice (s.P i).1 (prg W i).length (s.P i).2)
 r3:V.rowIs s.g3 51 W.fs.length (fun i=>.slice (s.Q i).1 (que W i).length (s.Q i).2)
 dp:SDp w0.heap.size d me W s V
 pg:St (SX w0.heap.size d s) w0.P V
structure SWo (w0:Wd) (d me:Nat) (W:Wl) (s:SD) (V:Wd):Prop where
 bel:Bl w0 V
 rt:aI W
 sf:me<W.fs.length
 ap:SAp w0.heap.size d W.fs.length s
 box:V.heap[d]?=some (.cells #[.slice s.a0 W.fs.length s.c0,.slice (some ⟨s.g1,0,none⟩) W.fs.length W.fs.length,.slice (some ⟨s.g2,0,none⟩) W.fs.length W.fs.length,.slice (some ⟨s.g3,0,none⟩) W.fs.length W.fs.length,.slice s.a4 W.pt.length s.c4] 28 (0,0))
 r1:V.rowIs s.g1 50 (W.fs.length*4) (jW W s.R)
 r2:V.rowIs s.g2 34 W.fs.length (fun i=>.slice (s.P i).1 (prg W i).length (s.P i).2)
 r3:V.rowIs s.g3 51 W.fs.length (fun i=>.slice (s.Q i).1 (que W i).length (s.Q i).2)
 dp:SDp w0.heap.size d me W s V
theorem SW.ghost{D:W0}{s:SD}(I:SW D d me W s V)(h:St (SX D.heap.size d s) Q V):SW ⟨D.w,fun V=>D.P V/\Q V⟩ d me W s V:=⟨I.bel,I.rt,I.sf,I.ap,I.box,I.r1,I.r2,I.r3,I.dp,fun E F=>⟨I.pg E F,h E F⟩⟩
theorem SW.drop{P:World->Prop}{s:SD}(I:SW ⟨w,fun V=>P V/\Q V⟩ d me W s V):SW ⟨w,P⟩ d me W s V/\Q V:=⟨⟨I.bel,I.rt,I.sf,I.ap,I.box,I.r1,I.r2,I.r3,I.dp,fun D E=>(I.pg D E).1⟩,I.pg.at.2⟩
theorem SWo.sw{s:SD}(h:SWo w d me W s V):SW ⟨w,fun V=>dY V (s.P me).1 (prg W me)⟩ d me W s V:=⟨h.bel,h.rt,h.sf,h.ap,h.box,h.r1,h.r2,h.r3,h.dp,h.dp.pr me h.sf⟩
theorem SDp.lt{s:SD}(h:SDp B d me W s V){n:Nat}(D:SAp B d W.fs.length s):∀ b,s.t=some b\/(∃ i,s.q i=some b)->b<V.heap.size:=fun b hb=>by
 rcases hb with hb |⟨i,hb⟩
 ·exact(h.ts.lt b hb).1
 ·exact((h.qs i (D.qq i b hb).1).lt b hb).1
theorem SW.lt{D:W0}{s:SD}(I:SW D d me W s V):∀ b,SX D.heap.size d s b->b<V.heap.size:=fun b hb=>by
 rcases hb with h|h|h|h|h|h
 ·exact yC h I.bel.size
 ·rw[h];exact aR I.box
 ·rw[h];exact I.r1.lt
 ·rw[h];exact I.r2.lt
 ·rw[h];exact I.r3.lt
 ·exact I.dp.lt (n:=0) I.ap b h
theorem SDp.off{s:SD}(h:SDp B d me W s V)(D:aC (SX B d s) V E)(hb:∀ b,s.t=some b\/(∃ i,s.q i=some b)->E.heap[b]?=V.heap[b]?):SDp B d me W s E :=
 ⟨h.fr.off D,h.fc,fun i hi=>(h.rl i hi).off D,fun i hi hs=>(h.tl i hi hs).off D,h.ts.kept D (fun _ _ F=>F) (fun b h=>hb b (.inl h)),fun i hi=>(h.pr i hi).off D,fun i hi j I=>(h.qg i hi j I).off D,fun i hi=>(h.qs i hi).kept D (fun _ _ F=>F) (fun b h=>hb b (.inr ⟨i,h⟩)),h.pt.off D,h.pc⟩
theorem SW.below{E:W0}{s:SD}{D:Wd}(I:SW E d me W s V)(hb:Bl V D):SW E d me W s D :=
 ⟨I.bel.trans (hb.mono I.bel.size),I.rt,I.sf,I.ap,aH I.box hb,I.r1.of_block (hb.block _ I.r1.lt),I.r2.of_block (hb.block _ I.r2.lt),I.r3.of_block (hb.block _ I.r3.lt),I.dp.off (aC.of_below hb) (fun b h=>hb.block b (I.dp.lt (n:=0) I.ap b h)),I.pg.off (aC.of_below hb)⟩
theorem SW.deep{D:W0}{s:SD}(I:SW D d me W s V){z o:Nat}(v:Value)(E:z=d\/z=s.g1\/z=s.g2\/z=s.g3):SDp D.heap.size d me W s (V.setCell ⟨z,o,none⟩ v):=by
 refine I.dp.off (aC.set V v ?_) (fun b hb=>yx _ _ _ _ ?_)
 ·rcases E with h|h|h|h
  ·exact .inr (.inl h)
  ·exact .inr (.inr (.inl h))
  ·exact .inr (.inr (.inr (.inl h)))
  ·exact .inr (.inr (.inr (.inr (.inl h))))
 ·have key:b≠d/\b≠s.g1/\b≠s.g2/\b≠s.g3:=by
   rcases hb with hb |⟨i,hb⟩
   ·have:=I.ap.tt b hb;exact⟨this.1,this.2.1,this.2.2.1,this.2.2.2.1⟩
   ·have:=I.ap.qq i b hb;exact⟨this.2.1,this.2.2.1,this.2.2.2.1,this.2.2.2.2.1⟩
  show b≠z;omega
theorem SW.frames{D:W0}{s:SD}(I:SW D d me W s V){L:List Fr}(hn:St (SX D.heap.size d s) (fun V=>aS V a L) V)(hl:L.length=W.fs.length)(E:aI { W with fs:=L })(hc:SlA a L.length c) :
  SW D d me { W with fs:=L } { s with a0:=a,c0:=c } (V.setCell ⟨d,0,none⟩ (.slice a W.fs.length c)):=by
 have hd:=I.deep (o:=0) (.slice a W.fs.length c) (.inl rfl);have ha:=I.ap;refine⟨I.bel.setCell ha.d0 _,E,by show me<L.length;rw[hl];exact I.sf,⟨ha.d0,ha.g1,ha.g2,ha.g3,ha.d1,ha.d2,ha.d3,ha.g12,ha.g13,ha.g23,ha.tt,by show ∀ i b,s.q i=some b->i<L.length/\_;rw[hl];exact ha.qq⟩,?_,?_,?_,?_,?_,I.pg.off (aC.set V _ (.inr (.inl rfl)))⟩
 ·show _=some (Obj.cells #[.slice a L.length c,.slice (some ⟨s.g1,0,none⟩) L.length L.length,.slice (some ⟨s.g2,0,none⟩) L.length L.length,.slice (some ⟨s.g3,0,none⟩) L.length L.length,.slice s.a4 W.pt.length s.c4] _ _);rw[hl];exact bR (i:=0) I.box
 ·show World.rowIs _ _ _ (L.length*4) _;rw[hl];exact I.r1.setOther (Ne.symm ha.d1) _
 ·show World.rowIs _ _ _ L.length _;rw[hl];exact I.r2.setOther (Ne.symm ha.d2) _
 ·show World.rowIs _ _ _ L.length _;rw[hl];exact I.r3.setOther (Ne.symm ha.d3) _
 ·refine⟨hn.off (aC.set V _ (.inr (.inl rfl))),hc,?_,?_,hd.ts,?_,?_,?_,hd.pt,hd.pc⟩
  ·show ∀ i,i<L.length->_;rw[hl];exact hd.rl
  ·show ∀ i,i<L.length->_;rw[hl];exact hd.tl
  ·show ∀ i,i<L.length->_;rw[hl];exact hd.pr
  ·show ∀ i,i<L.length->_;rw[hl];exact hd.qg
  ·show ∀ i,i<L.length->_;rw[hl];exact hd.qs
theorem SW.ports{D:W0}{s:SD}(I:SW D d me W s V){L:List Pt}(hn:bU (SX D.heap.size d s) V a L)(E:aI { W with pt:=L })(hc:SlA a L.length c) :
  SW D d me { W with pt:=L } { s with a4:=a,c4:=c } (V.setCell ⟨d,4,none⟩ (.slice a L.length c)):=by
 have hd:=I.deep (o:=4) (.slice a L.length c) (.inl rfl);have ha:=I.ap;exact⟨I.bel.setCell ha.d0 _,E,I.sf,⟨ha.d0,ha.g1,ha.g2,ha.g3,ha.d1,ha.d2,ha.d3,ha.g12,ha.g13,ha.g23,ha.tt,ha.qq⟩,bR (i:=4) I.box,I.r1.setOther (Ne.symm ha.d1) _,I.r2.setOther (Ne.symm ha.d2) _,I.r3.setOther (Ne.symm ha.d3) _,⟨hd.fr,hd.fc,hd.rl,hd.tl,hd.ts,hd.pr,hd.qg,hd.qs,hn.off (aC.set V _ (.inr (.inl rfl))),hc⟩,I.pg.off (aC.set V _ (.inr (.inl rfl)))⟩
theorem SW.realm{M:W0}{s:SD}(I:SW M d me W s V){A:RA}{Q:Rl}(hk:k<W.fs.length)(hQ:bI Q=0)(hr:St (SX M.heap.size d s) (fun V=>aD V A.a0 Q.s/\aZ V A.a1 Q.hs/\aO V A.a2 Q.i) V)(ht:St (SX M.heap.size d s) (fun V=>aG V A.a3 Q.t) V)(hc:k=me->A.c3=Q.t.length/\∀ U,A.a3=some U->∃ b o,U=⟨b,o,none⟩)
  (hV:V' =(((V.setCell ⟨s.g1,k*4,none⟩ (.slice A.a0 Q.s.length A.c0)).setCell ⟨s.g1,k*4+1,none⟩ (.slice A.a1 Q.hs.length A.c1)).setCell ⟨s.g1,k*4+2,none⟩ (.slice A.a2 Q.i.length A.c2)).setCell ⟨s.g1,k*4+3,none⟩ (.slice A.a3 Q.t.length A.c3)) :
  SW M d me (setR W k Q) { s with R:=fun i=>if i=k then A else s.R i,t:=if k=me then none else s.t } V' := by
 subst hV;have ha:=I.ap;have a5:k<W.rs.length:=by rw[I.rt.lr];exact hk
 have T:∀ X:Nat->Prop,X s.g1->aC X V ((((V.setCell ⟨s.g1,k*4,none⟩ (.slice A.a0 Q.s.length A.c0)).setCell ⟨s.g1,k*4+1,none⟩ (.slice A.a1 Q.hs.length A.c1)).setCell ⟨s.g1,k*4+2,none⟩ (.slice A.a2 Q.i.length A.c2)).setCell ⟨s.g1,k*4+3,none⟩ (.slice A.a3 Q.t.length A.c3)):=fun X Z=>(((aC.set _ _ Z).trans (aC.set _ _ Z)).trans (aC.set _ _ Z)).trans (aC.set _ _ Z)
 have D:∀ b,b≠s.g1->((((V.setCell ⟨s.g1,k*4,none⟩ (.slice A.a0 Q.s.length A.c0)).setCell ⟨s.g1,k*4+1,none⟩ (.slice A.a1 Q.hs.length A.c1)).setCell ⟨s.g1,k*4+2,none⟩ (.slice A.a2 Q.i.length A.c2)).setCell ⟨s.g1,k*4+3,none⟩ (.slice A.a3 Q.t.length A.c3)).heap[b]?=V.heap[b]?:=fun b hb=>by
  rw[yx _ _ _ _ hb,yx _ _ _ _ hb,yx _ _ _ _ hb,yx _ _ _ _ hb]
 have J:SX M.heap.size d s s.g1:=.inr (.inr (.inl rfl))
 have hd:SDp M.heap.size d me W s _:=I.dp.off (T _ J) (fun b hb=>D b (by
  rcases hb with hb |⟨i,hb⟩
  ·exact(ha.tt b hb).2.1
  ·exact(ha.qq i b hb).2.2.1))
 have F:∀ b,SX M.heap.size d { s with R:=fun i=>if i=k then A else s.R i,t:=if k=me then none else s.t } b->SX M.heap.size d s b:=fun b hb=>by
  rcases hb with h|h|h|h|h|h|h
  ·exact .inl h
  ·exact .inr (.inl h)
  ·exact .inr (.inr (.inl h))
  ·exact .inr (.inr (.inr (.inl h)))
  ·exact .inr (.inr (.inr (.inr (.inl h))))
  ·refine .inr (.inr (.inr (.inr (.inr (.inl ?_)))));dsimp only at h
   split at h
   ·cases h
   ·exact h
  ·exact .inr (.inr (.inr (.inr (.inr (.inr h)))))
 have E:∀ i,rlm (setR W k Q) i=if i=k then Q else rlm W i:=fun i=>gW a5
 refine⟨I.bel.trans ⟨rfl,rfl,rfl,oac,fun b hb=>D b (by have:=ha.g1;omega)⟩,I.rt.setR hQ hk,I.sf,⟨ha.d0,ha.g1,ha.g2,ha.g3,ha.d1,ha.d2,ha.d3,ha.g12,ha.g13,ha.g23,fun b hb=>ha.tt b ?_,ha.qq⟩,(D d ha.d1).trans I.box,?_,I.r2.of_block (D _ (Ne.symm ha.g12)),I.r3.of_block (D _ (Ne.symm ha.g13)),?_,(I.pg.off (T _ J)).less F⟩
 ·dsimp only at hb
  split at hb
  ·cases hb
  ·exact hb
 ·refine yG ((((I.r1.set (k*4) _).set (k*4+1) _).set (k*4+2) _).set (k*4+3) _) (fun j _=>?_);by_cases e:j / 4=k
  ·rcases(by omega:j=k*4\/j=k*4+1\/j=k*4+2\/j=k*4+3) with rfl|rfl|rfl|rfl
   ·rw[yd oaa,yd oaa,yd oaa,ye rfl,qV,E,ye rfl];simp
   ·rw[yd oaa,yd oaa,ye rfl,qW,E,ye rfl];simp
   ·rw[yd oaa,ye rfl,sQ,E,ye rfl];simp
   ·rw[ye rfl,sS,E,ye rfl];simp
  ·rw[yd oaa,yd oaa,yd oaa,yd oaa];exact(NN (by rw[E,yd e]) (yd e)).symm
 ·refine⟨hd.fr.less F,hd.fc,fun i hi=>?_,fun i hi hs=>?_,?_,fun i hi=>(hd.pr i hi).less F,fun i hi j hj=>(hd.qg i hi j hj).less F,fun i hi=>(hd.qs i hi).kept (aC.refl _ _) (fun b _ hb=>F b hb) (fun b _=>rfl),fun w' O=>hd.pt w' (O.mono F),hd.pc⟩
  ·rw[E];dsimp only;by_cases e:i=k
   ·rw[ye e,ye e];exact(hr.off (T _ J)).less F
   ·rw[yd e,yd e];exact(hd.rl i hi).less F
  ·rw[E];dsimp only;by_cases e:i=k
   ·rw[ye e,ye e];exact(ht.off (T _ J)).less F
   ·rw[yd e,yd e];exact(hd.tl i hi hs).less F
  ·generalize SX M.heap.size d { s with R:=fun i=>if i=k then A else s.R i,t:=if k=me then none else s.t }=Y at F |-;rw[E];dsimp only;by_cases e:me=k
   ·rw[ye e,ye e,ye e.symm];refine⟨oac,.inl ⟨rfl,(hc e.symm).1,⟨fun h=>?_,(hc e.symm).2⟩,fun w' O U h j u hu=>?_⟩⟩
    ·have:=(ht.at);rw[h] at this;exact Tm this rfl
    ·exact YF ((ht.off (T _ J)) w' (O.mono F)) U h j u hu
   ·rw[yd e,yd e,yd (Ne.symm e)];exact hd.ts.kept (aC.refl _ _) (fun b _ hb=>F b hb) (fun b _=>rfl)
theorem SW.setIn{J:W0}{s:SD}(I:SW J d me W s V){G:List Cl}(O:bI { rlm W me with i:=G }=0)(hg:St (SX J.heap.size d s) (fun V=>aO V a G) V) :
  SW J d me (setR W me { rlm W me with i:=G }) { s with R:=fun i=>if i=me then { s.R me with a2:=a,c2:=c } else s.R i } (V.setCell ⟨s.g1,me*4+2,none⟩ (.slice a G.length c)):=by
 have ha:=I.ap;have M:me<W.rs.length:=by rw[I.rt.lr];exact I.sf
 have hd:=I.deep (z:=s.g1) (o:=me*4+2) (.slice a G.length c) (.inr (.inl rfl));have F:SX J.heap.size d s s.g1:=.inr (.inr (.inl rfl));have D:∀ i,rlm (setR W me { rlm W me with i:=G }) i=if i=me then { rlm W me with i:=G } else rlm W i:=fun i=>gW M
 refine⟨I.bel.setCell ha.g1 _,I.rt.setR O I.sf,I.sf,⟨ha.d0,ha.g1,ha.g2,ha.g3,ha.d1,ha.d2,ha.d3,ha.g12,ha.g13,ha.g23,ha.tt,ha.qq⟩,(yx _ _ _ _ ha.d1).trans I.box,?_,I.r2.setOther (Ne.symm ha.g12) _,I.r3.setOther (Ne.symm ha.g13) _,?_,I.pg.off (aC.set V _ F)⟩
 ·refine yG (I.r1.set (me*4+2) _) (fun j _=>?_);by_cases e:j / 4=me
  ·rcases(by omega:j=me*4\/j=me*4+1\/j=me*4+2\/j=me*4+3) with rfl|rfl|rfl|rfl
   ·rw[yd oaa,qV,qV,D,ye rfl];simp
   ·rw[yd oaa,qW,qW,D,ye rfl];simp
   ·rw[ye rfl,sQ,D,ye rfl];simp
   ·rw[yd oaa,sS,sS,D,ye rfl];simp
  ·rw[yd oaa];exact(NN (by rw[D,yd e]) (yd e)).symm
 ·refine⟨hd.fr,hd.fc,fun i hi=>?_,fun i hi hs=>?_,?_,hd.pr,hd.qg,hd.qs,hd.pt,hd.pc⟩
  ·rw[D];dsimp only;by_cases e:i=me
   ·rw[ye e,ye e];exact fun w' E=>⟨(hd.rl me I.sf w' E).1,(hd.rl me I.sf w' E).2.1,hg.off (aC.set V _ F) w' E⟩
   ·rw[yd e,yd e];exact hd.rl i hi
  ·rw[D];dsimp only;rw[yd hs,yd hs];exact hd.tl i hi hs
  ·rw[D];dsimp only;rw[ye rfl,ye rfl];exact hd.ts
theorem YW{D:W0}{r:Option Nat}(hb:Below D.heap.size D.w V)(hg:V.grownBy E r)(F:∀ b,r=some b->D.heap.size<=b):Below D.heap.size D.w E :=
 hb.trans ⟨hg.os,hg.tape,hg.output,hg.size,fun b h=>hg.block b (yC h hb.size) (fun e=>by have:=F b e.symm;omega)⟩
theorem SW.told{T:W0}{s:SD}(I:SW T d me W s V){O:World}{o:Int}(hg:V.grownBy O s.t)(ho:O.ownsRow T.heap.size 3 1 (.slice (some ⟨g,0,none⟩) ((rlm W me).t.length+1) cap) ((rlm W me).t.length+1) ((rlm W me).t.map (Value.int .i64)++[.int .i64 o]))(U:s.t=some g\/V.heap.size<=g)(hQ:bI { rlm W me with t:=(rlm W me).t++[o] }=0)
  (hV:V' = O.setCell ⟨s.g1,me*4+3,none⟩ (.slice (some ⟨g,0,none⟩) ((rlm W me).t.length+1) cap)) :
  SW T d me (mZ W me o) { s with R:=fun i=>if i=me then { s.R me with a3:=some ⟨g,0,none⟩,c3:=cap } else s.R i,t:=some g } V' := by
 subst hV;have ha:=I.ap;have a5:me<W.rs.length:=by rw[I.rt.lr];exact I.sf
 have D:∀ i,rlm (mZ W me o) i=if i=me then { rlm W me with t:=(rlm W me).t++[o] } else rlm W i:=fun i=>gW a5
 have E:∀ b,b<V.heap.size->SX T.heap.size d { s with R:=fun i=>if i=me then { s.R me with a3:=some ⟨g,0,none⟩,c3:=cap } else s.R i,t:=some g } b->SX T.heap.size d s b:=fun b a7 hb=>by
  rcases hb with h|h|h|h|h|h|h
  ·exact .inl h
  ·exact .inr (.inl h)
  ·exact .inr (.inr (.inl h))
  ·exact .inr (.inr (.inr (.inl h)))
  ·exact .inr (.inr (.inr (.inr (.inl h))))
  ·cases h;rcases U with h|h
   ·exact .inr (.inr (.inr (.inr (.inr (.inl h)))))
   ·omega
  ·exact .inr (.inr (.inr (.inr (.inr (.inr h)))))
 have F:aC (SX T.heap.size d s) V O:=aC.grown hg (fun b hb=>.inr (.inr (.inr (.inr (.inr (.inl hb))))));have J:∀ X:Nat->Prop,X s.g1->aC X O (O.setCell ⟨s.g1,me*4+3,none⟩ (.slice (some ⟨g,0,none⟩) ((rlm W me).t.length+1) cap)):=fun X hx=>aC.set O _ hx;have M:SX T.heap.size d { s with R:=fun i=>if i=me then { s.R me with a3:=some ⟨g,0,none⟩,c3:=cap } else s.R i,t:=some g } s.g1:=.inr (.inr (.inl rfl));have key:∀ b,b<V.heap.size->b≠s.g1->s.t≠some b->(O.setCell ⟨s.g1,me*4+3,none⟩ (.slice (some ⟨g,0,none⟩) ((rlm W me).t.length+1) cap)).heap[b]?=V.heap[b]?:=fun b h1 h2 h3=>(yx _ _ _ _ h2).trans (hg.block b h1 (fun e=>h3 e.symm));have Z:∀ b,s.t=some b->b≠d/\b≠s.g1/\b≠s.g2/\b≠s.g3:=fun b hb=>⟨(ha.tt b hb).1,(ha.tt b hb).2.1,(ha.tt b hb).2.2.1,(ha.tt b hb).2.2.2.1⟩;have ld:=aR I.box;have l1:=I.r1.lt;have l2:=I.r2.lt;have l3:=I.r3.lt;have kq:∀ i b,s.q i=some b->b<V.heap.size:=fun i b hb=>I.dp.lt (n:=0) ha b (.inr ⟨i,hb⟩);have a6:T.heap.size<=g:=by have:=(ho.lt g rfl).1;exact this
 refine⟨(YW I.bel hg (fun b hb=>(I.dp.ts.lt b hb).2)).setCell ha.g1 _,I.rt.setR hQ I.sf,I.sf,⟨ha.d0,ha.g1,ha.g2,ha.g3,ha.d1,ha.d2,ha.d3,ha.g12,ha.g13,ha.g23,fun b hb=>?_,ha.qq⟩,(key d ld ha.d1 (fun h=>(Z d h).1 rfl)).trans I.box,?_,I.r2.of_block (key _ l2 (Ne.symm ha.g12) (fun h=>(Z _ h).2.2.1 rfl)),I.r3.of_block (key _ l3 (Ne.symm ha.g13) (fun h=>(Z _ h).2.2.2 rfl)),?_,(I.pg.grow F E).off (J _ M)⟩
 ·cases hb;rcases U with h|h
  ·exact ha.tt g h
  ·exact⟨oaa,by show g≠s.g1;omega,by show g≠s.g2;omega,by show g≠s.g3;omega,fun i e=>by have:=kq i g e;omega⟩
 ·refine yG ((I.r1.of_block (hg.block _ l1 (fun e=>(Z _ e.symm).2.1 rfl))).set (me*4+3) _) (fun j _=>?_);by_cases e:j / 4=me
  ·rcases(by omega:j=me*4\/j=me*4+1\/j=me*4+2\/j=me*4+3) with rfl|rfl|rfl|rfl
   ·rw[yd oaa,qV,qV,D,ye rfl];simp
   ·rw[yd oaa,qW,qW,D,ye rfl];simp
   ·rw[yd oaa,sQ,sQ,D,ye rfl];simp
   ·rw[ye rfl,sS,D,ye rfl];simp
  ·rw[yd oaa];exact(NN (by rw[D,yd e]) (yd e)).symm
 ·refine⟨(I.dp.fr.grow F E).off (J _ M),I.dp.fc,fun i hi=>?_,fun i hi hs=>?_,?_,fun i hi=>((I.dp.pr i hi).grow F E).off (J _ M),fun i hi j hj=>((I.dp.qg i hi j hj).grow F E).off (J _ M),fun i hi=>((I.dp.qs i hi).kept F E (fun b hb=>hg.block b (kq i b hb) (fun e=>(ha.tt b e.symm).2.2.2.2 i hb))).kept (J _ M) (fun _ _ h=>h) (fun b hb=>yx _ _ _ _ (ha.qq i b hb).2.2.1),(I.dp.pt.grow F E).off (J _ M),I.dp.pc⟩
  ·rw[D];dsimp only;by_cases e:i=me
   ·subst e;rw[ye rfl,ye rfl];exact((I.dp.rl i hi).grow F E).off (J _ M)
   ·rw[yd e,yd e];exact((I.dp.rl i hi).grow F E).off (J _ M)
  ·rw[D];dsimp only;rw[yd hs,yd hs];exact((I.dp.tl i hi hs).grow F E).off (J _ M)
  ·rw[D];dsimp only;rw[ye rfl,ye rfl];dsimp only;rw[List.length_append,List.length_singleton,List.map_append];refine⟨oac,.inr ⟨g,rfl,rfl,fG ho (fun k hk=>?_)⟩⟩;cases hk;refine yx _ _ _ _ ?_;rcases U with h|h
   ·exact(Z g h).2.1
   ·show g≠s.g1;omega
theorem YX(D:k<W.qs.length):que { W with qs:=W.qs.set k q } i=if i=k then q else que W i:=dE _ _ _ _ _ D
theorem Vh{q:List Ac}(D:k<W.ps.length):prg { W with ps:=W.ps.set k q } i=if i=k then q else prg W i:=dE _ _ _ _ _ D
theorem SW.mail{O:W0}{s:SD}(I:SW O d me W s V){T:World}{m:Ml}{ga:OA × Nat}(hk:k<W.fs.length)(hm:St (SX O.heap.size d s) (fun V=>aO V ga.1 m.g) V)(hg:V.grownBy T (s.q k))(ho:T.ownsRow O.heap.size 53 2 (.slice (some ⟨g,0,none⟩) ((que W k).length+1) cap) ((que W k).length+1) (iL (que W k) (s.G k)++[.int .i64 m.f,.slice ga.1 m.g.length ga.2]))(F:s.q k=some g\/V.heap.size<=g)(hR:aI { W with qs:=W.qs.set k (que W k++[m]) })
  (hV:V' = T.setCell ⟨s.g3,k,none⟩ (.slice (some ⟨g,0,none⟩) ((que W k).length+1) cap)) :
  SW O d me { W with qs:=W.qs.set k (que W k++[m]) } { s with Q:=fun i=>if i=k then (some ⟨g,0,none⟩,cap) else s.Q i,G:=fun i=>if i=k then (fun j=>if j=(que W k).length then ga else s.G k j) else s.G i,q:=fun i=>if i=k then some g else s.q i } V' := by
 subst hV;have ha:=I.ap;have a5:k<W.qs.length:=by rw[I.rt.lq];exact hk
 have Z:∀ i,que { W with qs:=W.qs.set k (que W k++[m]) } i=if i=k then que W k++[m] else que W i:=fun i=>YX a5
 have D:∀ b,b<V.heap.size->SX O.heap.size d { s with Q:=fun i=>if i=k then (some ⟨g,0,none⟩,cap) else s.Q i,G:=fun i=>if i=k then (fun j=>if j=(que W k).length then ga else s.G k j) else s.G i,q:=fun i=>if i=k then some g else s.q i } b->SX O.heap.size d s b:=fun b a6 hb=>by
  rcases hb with h|h|h|h|h|h |⟨i,h⟩
  ·exact .inl h
  ·exact .inr (.inl h)
  ·exact .inr (.inr (.inl h))
  ·exact .inr (.inr (.inr (.inl h)))
  ·exact .inr (.inr (.inr (.inr (.inl h))))
  ·exact .inr (.inr (.inr (.inr (.inr (.inl h)))))
  ·dsimp only at h
   split at h
   ·cases h;rcases F with h|h
    ·exact .inr (.inr (.inr (.inr (.inr (.inr ⟨k,h⟩)))))
    ·omega
   ·exact .inr (.inr (.inr (.inr (.inr (.inr ⟨i,h⟩)))))
 have J:aC (SX O.heap.size d s) V T:=aC.grown hg (fun b hb=>.inr (.inr (.inr (.inr (.inr (.inr ⟨k,hb⟩))))));have M:∀ X:Nat->Prop,X s.g3->aC X T (T.setCell ⟨s.g3,k,none⟩ (.slice (some ⟨g,0,none⟩) ((que W k).length+1) cap)):=fun X hx=>aC.set T _ hx;have E:SX O.heap.size d { s with Q:=fun i=>if i=k then (some ⟨g,0,none⟩,cap) else s.Q i,G:=fun i=>if i=k then (fun j=>if j=(que W k).length then ga else s.G k j) else s.G i,q:=fun i=>if i=k then some g else s.q i } s.g3:=.inr (.inr (.inr (.inr (.inl rfl))));have key:∀ b,b<V.heap.size->b≠s.g3->s.q k≠some b->(T.setCell ⟨s.g3,k,none⟩ (.slice (some ⟨g,0,none⟩) ((que W k).length+1) cap)).heap[b]?=V.heap[b]?:=fun b h1 h2 h3=>(yx _ _ _ _ h2).trans (hg.block b h1 (fun e=>h3 e.symm));have k0:∀ b,s.q k=some b->b≠d/\b≠s.g1/\b≠s.g2/\b≠s.g3:=fun b hb=>⟨(ha.qq k b hb).2.1,(ha.qq k b hb).2.2.1,(ha.qq k b hb).2.2.2.1,(ha.qq k b hb).2.2.2.2.1⟩;have ld:=aR I.box;have l1:=I.r1.lt;have l2:=I.r2.lt;have l3:=I.r3.lt;have kq:∀ i b,s.q i=some b->b<V.heap.size:=fun i b hb=>I.dp.lt (n:=0) ha b (.inr ⟨i,hb⟩);have kt:∀ b,s.t=some b->b<V.heap.size:=fun b hb=>I.dp.lt (n:=0) ha b (.inl hb)
 have ng:g≠d/\g≠s.g1/\g≠s.g2/\g≠s.g3:=by
  rcases F with h|h
  ·exact k0 g h
  ·omega
 refine⟨(YW I.bel hg (fun b hb=>((I.dp.qs k hk).lt b hb).2)).setCell ha.g3 _,hR,I.sf,⟨ha.d0,ha.g1,ha.g2,ha.g3,ha.d1,ha.d2,ha.d3,ha.g12,ha.g13,ha.g23,fun b hb=>⟨(ha.tt b hb).1,(ha.tt b hb).2.1,(ha.tt b hb).2.2.1,(ha.tt b hb).2.2.2.1,fun i e=>?_⟩,fun i b hb=>?_⟩,(key d ld ha.d3 (fun h=>(k0 d h).1 rfl)).trans I.box,I.r1.of_block (key _ l1 ha.g13 (fun h=>(k0 _ h).2.1 rfl)),I.r2.of_block (key _ l2 ha.g23 (fun h=>(k0 _ h).2.2.1 rfl)),?_,?_,(I.pg.grow J D).off (M _ E)⟩
 ·dsimp only at e
  split at e
  ·cases e;rcases F with h|h
   ·exact(ha.tt g hb).2.2.2.2 k h
   ·have:=kt g hb;omega
  ·exact(ha.tt b hb).2.2.2.2 i e
 ·dsimp only at hb
  split at hb
  ·rename_i ei;cases hb;refine⟨by rw[ei];exact hk,ng.1,ng.2.1,ng.2.2.1,ng.2.2.2,fun j e=>?_⟩;dsimp only at e
   split at e
   ·rename_i ej;rw[ei,ej]
   ·rcases F with h|h
    ·rw[ei];exact(ha.qq k g h).2.2.2.2.2 j e
    ·have:=kq j g e;omega
  ·rename_i ei;have U:=ha.qq i b hb;refine⟨U.1,U.2.1,U.2.2.1,U.2.2.2.1,U.2.2.2.2.1,fun j e=>?_⟩;dsimp only at e
   split at e
   ·cases e;rcases F with h|h
    ·exact absurd (U.2.2.2.2.2 k h) (fun e2=>ei e2.symm)
    ·have:=kq i g hb;omega
   ·exact U.2.2.2.2.2 j e
 ·refine yG ((I.r3.of_block (hg.block _ l3 (fun e=>(k0 _ e.symm).2.2.2 rfl))).set k _) (fun j _=>?_);dsimp only;rw[Z];by_cases e:j=k
  ·rw[ye e,ye e,ye e,List.length_append,List.length_singleton]
  ·rw[yd e,yd e,yd e]
 ·refine⟨(I.dp.fr.grow J D).off (M _ E),I.dp.fc,fun i hi=>((I.dp.rl i hi).grow J D).off (M _ E),fun i hi hs=>((I.dp.tl i hi hs).grow J D).off (M _ E),(I.dp.ts.kept J D (fun b hb=>hg.block b (kt b hb) (fun e=>(ha.tt b hb).2.2.2.2 k e.symm))).kept (M _ E) (fun _ _ h=>h) (fun b hb=>yx _ _ _ _ (ha.tt b hb).2.2.2.1),fun i hi=>((I.dp.pr i hi).grow J D).off (M _ E),fun i hi j hj=>?_,fun i hi=>?_,(I.dp.pt.grow J D).off (M _ E),I.dp.pc⟩
  ·rw[Z] at hj |-;dsimp only;by_cases e:i=k
   ·rw[ye e] at hj;rw[ye e,ye e];rw[List.length_append,List.length_singleton] at hj;by_cases ej:j=(que W k).length
    ·rw[ye ej,ej,YV];exact(hm.grow J D).off (M _ E)
    ·rw[yd ej,YU oaa];exact((I.dp.qg k hk j oaa).grow J D).off (M _ E)
   ·rw[yd e] at hj;rw[yd e,yd e];exact((I.dp.qg i hi j hj).grow J D).off (M _ E)
  ·generalize SX O.heap.size d { s with Q:=fun i=>if i=k then (some ⟨g,0,none⟩,cap) else s.Q i,G:=fun i=>if i=k then (fun j=>if j=(que W k).length then ga else s.G k j) else s.G i,q:=fun i=>if i=k then some g else s.q i }=Y at D E |-;rw[Z];dsimp only;by_cases e:i=k
   ·rw[ye e,ye e,ye e,ye e,<- Vg,List.length_append,List.length_singleton];refine⟨by rw[List.length_append,GR];simp;omega,.inr ⟨g,rfl,rfl,fG ho (fun b hb=>?_)⟩⟩;cases hb;exact yx _ _ _ _ ng.2.2.2
   ·rw[yd e,yd e,yd e,yd e];exact((I.dp.qs i hi).kept J D (fun b hb=>hg.block b (kq i b hb) (fun e2=>e ((ha.qq k b e2.symm).2.2.2.2.2 i hb)))).kept (M _ E) (fun _ _ h=>h) (fun b hb=>yx _ _ _ _ (ha.qq i b hb).2.2.2.2.1)
theorem SW.queue{E:W0}{s:SD}(I:SW E d me W s V){G:Nat->Option Addr × Nat}(hk:k<W.fs.length)(hq:St (SX E.heap.size d s) (fun V=>∀ M,a=some M->∀ j u,(iL q G)[j]?=some u->V.cell? (M.add j)=some u) V)(hn:(a=none->q.length=0)/\∀ M,a=some M->∃ b o,M=⟨b,o,none⟩)(hc:c=q.length)(hm:∀ j,j<q.length->St (SX E.heap.size d s) (fun V=>aO V (G j).1 (ml q j).g) V)(hR:aI { W with qs:=W.qs.set k q }) :
  SW E d me { W with qs:=W.qs.set k q } { s with Q:=fun i=>if i=k then (a,c) else s.Q i,G:=fun i=>if i=k then G else s.G i,q:=fun i=>if i=k then none else s.q i } (V.setCell ⟨s.g3,k,none⟩ (.slice a q.length c)):=by
 have ha:=I.ap;have T:k<W.qs.length:=by rw[I.rt.lq];exact hk
 have F:∀ i,que { W with qs:=W.qs.set k q } i=if i=k then q else que W i:=fun i=>YX T
 have D:∀ b,SX E.heap.size d { s with Q:=fun i=>if i=k then (a,c) else s.Q i,G:=fun i=>if i=k then G else s.G i,q:=fun i=>if i=k then none else s.q i } b->SX E.heap.size d s b:=fun b hb=>by
  rcases hb with h|h|h|h|h|h |⟨i,h⟩
  ·exact .inl h
  ·exact .inr (.inl h)
  ·exact .inr (.inr (.inl h))
  ·exact .inr (.inr (.inr (.inl h)))
  ·exact .inr (.inr (.inr (.inr (.inl h))))
  ·exact .inr (.inr (.inr (.inr (.inr (.inl h)))))
  ·dsimp only at h
   split at h
   ·cases h
   ·exact .inr (.inr (.inr (.inr (.inr (.inr ⟨i,h⟩)))))
 have hd:=I.deep (z:=s.g3) (o:=k) (.slice a q.length c) (.inr (.inr (.inr rfl)));have x1:SX E.heap.size d s s.g3:=.inr (.inr (.inr (.inr (.inl rfl))));have Z:aC (SX E.heap.size d s) V (V.setCell ⟨s.g3,k,none⟩ (.slice a q.length c)):=aC.set V _ x1;refine⟨I.bel.setCell ha.g3 _,hR,I.sf,⟨ha.d0,ha.g1,ha.g2,ha.g3,ha.d1,ha.d2,ha.d3,ha.g12,ha.g13,ha.g23,fun b hb=>⟨(ha.tt b hb).1,(ha.tt b hb).2.1,(ha.tt b hb).2.2.1,(ha.tt b hb).2.2.2.1,fun i e=>?_⟩,fun i b hb=>?_⟩,(yx _ _ _ _ ha.d3).trans I.box,I.r1.setOther ha.g13 _,I.r2.setOther ha.g23 _,?_,?_,(I.pg.off Z).less D⟩
 ·dsimp only at e
  split at e
  ·cases e
  ·exact(ha.tt b hb).2.2.2.2 i e
 ·dsimp only at hb
  split at hb
  ·cases hb
  ·have J:=ha.qq i b hb;refine⟨J.1,J.2.1,J.2.2.1,J.2.2.2.1,J.2.2.2.2.1,fun j e=>?_⟩;dsimp only at e
   split at e
   ·cases e
   ·exact J.2.2.2.2.2 j e
 ·refine yG (I.r3.set k _) (fun j _=>?_);dsimp only;rw[F];by_cases e:j=k
  ·rw[ye e,ye e,ye e]
  ·rw[yd e,yd e,yd e]
 ·refine⟨hd.fr.less D,hd.fc,fun i hi=>(hd.rl i hi).less D,fun i hi hs=>(hd.tl i hi hs).less D,hd.ts.kept (aC.refl _ _) (fun b _ h=>D b h) (fun _ _=>rfl),fun i hi=>(hd.pr i hi).less D,fun i hi j O=>?_,fun i hi=>?_,fun w' U=>hd.pt w' (U.mono D),hd.pc⟩
  ·rw[F] at O |-;dsimp only;by_cases e:i=k
   ·rw[ye e] at O;rw[ye e,ye e];exact((hm j O).off Z).less D
   ·rw[yd e] at O;rw[yd e,yd e];exact(hd.qg i hi j O).less D
  ·generalize SX E.heap.size d { s with Q:=fun i=>if i=k then (a,c) else s.Q i,G:=fun i=>if i=k then G else s.G i,q:=fun i=>if i=k then none else s.q i }=Y at D |-;rw[F];dsimp only;by_cases e:i=k
   ·rw[ye e,ye e,ye e,ye e];exact⟨GR _ _,.inl ⟨rfl,hc,hn,(hq.off Z).less D⟩⟩
   ·rw[yd e,yd e,yd e,yd e];exact(hd.qs i hi).kept (aC.refl _ _) (fun b _ h=>D b h) (fun _ _=>rfl)
theorem SW.noprog{J:W0}{s:SD}(I:SW J d me W s V)(F:k<W.fs.length) :
  SW J d me { W with ps:=W.ps.set k [] } { s with P:=fun i=>if i=k then (none,0) else s.P i } (V.setCell ⟨s.g2,k,none⟩ (.slice none 0 0)):=by
 have ha:=I.ap;have E:k<W.ps.length:=by rw[I.rt.lp];exact F
 have D:∀ i,prg { W with ps:=W.ps.set k [] } i=if i=k then [] else prg W i:=fun i=>Vh E
 have hd:=I.deep (z:=s.g2) (o:=k) (.slice none 0 0) (.inr (.inr (.inl rfl)));refine⟨I.bel.setCell ha.g2 _,I.rt.prog F (Nat.zero_le _),I.sf,⟨ha.d0,ha.g1,ha.g2,ha.g3,ha.d1,ha.d2,ha.d3,ha.g12,ha.g13,ha.g23,ha.tt,ha.qq⟩,(yx _ _ _ _ ha.d2).trans I.box,I.r1.setOther ha.g12 _,?_,I.r3.setOther (Ne.symm ha.g23) _,⟨hd.fr,hd.fc,hd.rl,hd.tl,hd.ts,fun i hi=>?_,hd.qg,hd.qs,hd.pt,hd.pc⟩,I.pg.off (aC.set V _ (.inr (.inr (.inr (.inl rfl)))))⟩
 ·refine yG (I.r2.set k _) (fun j _=>?_);dsimp only;rw[D];by_cases e:j=k
  ·rw[ye e,ye e,ye e];rfl
  ·rw[yd e,yd e,yd e]
 ·rw[D];dsimp only;by_cases e:i=k
  ·rw[ye e,ye e];exact fun w' _ j M=>absurd M (yB _)
  ·rw[yd e,yd e];exact hd.pr i hi
theorem NP{l:List Int}{t:Option Nat}(h:App X B 3 1 a l.length c (l.map (Value.int .i64)) t V):aG V a l:=fun i hi=>by
 obtain⟨h1,F⟩:=h.read
 cases a with
 | none=>have:=h1 rfl;omega
 | some E =>
  obtain⟨b,o,rfl⟩:=h.lit E rfl;have D:=F _ rfl i (.int .i64 (l.getD i 0)) (by rw[List.getElem?_map,List.getElem?_eq_getElem hi,aJ l 0 hi];rfl);rw[Addr.add_lit] at D;exact⟨b,o,rfl,D⟩
theorem YY{G:Nat->Option Addr × Nat}{t:Option Nat}(h:App X B 53 2 a q.length c (iL q G) t V)(hg:∀ j,j<q.length->aO V (G j).1 (ml q j).g):gX V a q:=fun i hi=>by
 obtain⟨h1,D⟩:=h.read
 cases a with
 | none=>have:=h1 rfl;omega
 | some I =>
  obtain⟨b,o,rfl⟩:=h.lit I rfl;have E:=D _ rfl _ _ (zS hi).1;have F:=D _ rfl _ _ (zS hi).2;rw[Addr.add_lit] at E F;exact⟨b,o,_,_,rfl,E,F,hg i hi⟩
theorem YZ{M:List Value}{t:Option Nat}(h:App X B e size a n c M t V)(hn:n<=9223372036854775807):SlA a n c:=by
 rcases h.2 with ⟨_,D,E,_⟩ |⟨b,h1,D,E⟩
 ·exact⟨fun e=>by rw[D];exact E.1 e,oaa,oaa⟩
 ·subst D;rcases E.2 with ⟨F,_⟩ |⟨g,cap,I,F,_,_,h5,J,_⟩
  ·cases F
  ·cases F;exact⟨(fun e=>by cases e),h5,J⟩
abbrev SD.wa(s:SD)(n:Nat):WA:=⟨s.a0,some ⟨s.g1,0,none⟩,some ⟨s.g2,0,none⟩,some ⟨s.g3,0,none⟩,s.a4,s.c0,n,n,n,s.c4⟩
