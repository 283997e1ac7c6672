/-
  x
-/
import Derived.Test.YtcbcpomacdngmaaGreatM37
namespace Go.Proofs.YtcbcpomacdngmaaGreat
set_option maxRecDepth 100000
set_option maxHeartbeats 4000000
set_option linter.unusedVariables false
open Go.RowKit Go.ChangeShapes Go.WideShapes
def App(X:Nat->Prop)(B:Nat)(e size:Nat)(a:Option Addr)(n c:Nat)(E:List Value)(t:Option Nat)(V:World):Prop :=
 E.length=n*size/\((t=none/\c=n/\((a=none->n=0)/\∀ D,a=some D->∃ b o,D=⟨b,o,none⟩)/\St X (fun V=>∀ D,a=some D->∀ j u,E[j]?=some u->V.cell? (D.add j)=some u) V) \/
  (∃ b,t=some b/\a=some ⟨b,0,none⟩/\V.ownsRow B e size (.slice a n c) n E))
theorem App.kept{X Y:Nat->Prop}{B e size n c:Nat}{a:Option Addr}{J:List Value}{t:Option Nat}{V E:World}(h:App X B e size a n c J t V)(U:zar X V E)(O:∀ b,b<V.heap.size->Y b->X b)(T:∀ b,t=some b->E.heap[b]?=V.heap[b]?):App Y B e size a n c J t E:=by
 refine⟨h.1,?_⟩;rcases h.2 with ⟨h1,D,F,M⟩ |⟨b,h1,D,F⟩
 ·exact .inl ⟨h1,D,F,M.grow U O⟩
 ·refine .inr ⟨b,h1,D,zaJ F (fun k I=>?_)⟩;rw[D] at I;cases I;exact T b h1
theorem App.lt{X:Nat->Prop}{B e size n c:Nat}{a:Option Addr}{I:List Value}{t:Option Nat}{V:World}(h:App X B e size a n c I t V):∀ b,t=some b->b<V.heap.size/\B<=b:=fun b F=>by
 rcases h.2 with ⟨h1,_⟩ |⟨J,h1,D,E⟩
 ·rw[F] at h1;cases h1
 ·rw[F] at h1;cases h1;exact⟨(E.lt b (by rw[D];rfl)).2,(E.lt b (by rw[D];rfl)).1⟩
theorem App.read{X:Nat->Prop}{B e size n c:Nat}{a:Option Addr}{I:List Value}{t:Option Nat}{V:World}(h:App X B e size a n c I t V):(a=none->n=0)/\∀ D,a=some D->∀ j u,I[j]?=some u->V.cell? (D.add j)=some u:=by
 rcases h.2 with ⟨h1,F,E,J⟩ |⟨b,h1,F,E⟩
 ·exact⟨E.1,J.at⟩
 ·subst F;refine⟨(fun e=>by cases e),fun D e j u M=>?_⟩;cases e;exact E.cells rfl j u M
theorem App.lit{X:Nat->Prop}{B e size n c:Nat}{a:Option Addr}{I:List Value}{t:Option Nat}{V:World}(h:App X B e size a n c I t V):∀ D,a=some D->∃ b o,D=⟨b,o,none⟩:=by
 rcases h.2 with ⟨_,_,F,_⟩ |⟨b,_,E,_⟩
 ·exact F.2
 ·intro D e;rw[E] at e;cases e;exact⟨_,_,rfl⟩
def zcv(q:List Ml)(G:Nat->Option Addr × Nat):List Value:=(List.range q.length).flatMap fun i=>[.int .i64 (ml q i).f,.slice (G i).1 (ml q i).g.length (G i).2]
theorem zem(q:List Ml)(G:Nat->Option Addr × Nat):∀ m,((List.range m).flatMap fun i=>[Value.int .i64 (ml q i).f,.slice (G i).1 (ml q i).g.length (G i).2]).length=m*2
 | 0=>rfl
 | m+1=>by rw[List.range_succ,List.flatMap_append,List.length_append,zem q G m];simp;omega
theorem zfN(q:List Ml)(G:Nat->Option Addr × Nat):(zcv q G).length=q.length*2:=zem q G _
theorem zjs(q:List Ml)(G:Nat->Option Addr × Nat){i j:Nat}(D:j<2):∀ {m:Nat},i<m->((List.range m).flatMap fun i=>[Value.int .i64 (ml q i).f,.slice (G i).1 (ml q i).g.length (G i).2])[i*2+j]?=[Value.int .i64 (ml q i).f,.slice (G i).1 (ml q i).g.length (G i).2][j]?
 | 0,hi=>by omega
 | m+1,hi=>by
  rw[List.range_succ,List.flatMap_append];by_cases h:i<m
  ·rw[List.getElem?_append_left (by rw[zem];omega),zjs q G D h]
  ·obtain rfl:i=m:=by omega
   rw[List.getElem?_append_right (by rw[zem];omega),zem];simp
theorem zfv{q:List Ml}{G:Nat->Option Addr × Nat}{i:Nat}(hi:i<q.length):(zcv q G)[i*2]?=some (.int .i64 (ml q i).f)/\(zcv q G)[i*2+1]?=some (.slice (G i).1 (ml q i).g.length (G i).2):=⟨zjs q G (j:=0) (by omega) hi,zjs q G (j:=1) (by omega) hi⟩
theorem ztC{q:List Ml}{m:Ml}{i:Nat}(h:i<q.length):ml (q++[m]) i=ml q i:=by
 unfold ml;simp[List.getD_eq_getElem?_getD,List.getElem?_append_left h]
theorem zox(q:List Ml)(m:Ml):ml (q++[m]) q.length=m:=by
 unfold ml;simp[List.getD_eq_getElem?_getD]
theorem zoJ(q:List Ml)(G:Nat->Option Addr × Nat)(m:Ml)(g:Option Addr × Nat):zcv q G++[.int .i64 m.f,.slice g.1 m.g.length g.2]=zcv (q++[m]) (fun i=>if i=q.length then g else G i):=by
 unfold zcv;rw[List.length_append,List.length_singleton,List.range_succ,List.flatMap_append]
 congr 1
 ·have:∀ i ∈ List.range q.length,[Value.int .i64 (ml q i).f,.slice (G i).1 (ml q i).g.length (G i).2]=[Value.int .i64 (ml (q++[m]) i).f,.slice (if i=q.length then g else G i).1 (ml (q++[m]) i).g.length (if i=q.length then g else G i).2]:=fun i hi=>by
   have hi:=List.mem_range.1 hi;rw[ztC hi,ya (by omega)]
  simp only[List.flatMap_def];rw[List.map_congr_left this]
 ·simp[zox]
structure SD where
 a0:Option Addr
 c0:Nat
 a4:Option Addr
 c4:Nat
 g1:Nat
 g2:Nat
 g3:Nat
 R:Nat->RA
 P:Nat->Option Addr × Nat
 Q:Nat->Option Addr × Nat
 G:Nat->Nat->Option Addr × Nat
 t:Option Nat
 q:Nat->Option Nat
def SX(B d:Nat)(s:SD)(b:Nat):Prop:=b<B\/b=d\/b=s.g1\/b=s.g2\/b=s.g3\/s.t=some b\/∃ i,s.q i=some b
structure SDp (B d me:Nat) (W:Wl) (s:SD) (V:World):Prop where
 fr:St (SX B d s) (fun V=>zaS V s.a0 W.fs) V
 fc:SlA s.a0 W.fs.length s.c0
 rl:∀ i,i<W.fs.length->St (SX B d s) (fun V=>zah V (s.R i).a0 (rlm W i).s/\zaw V (s.R i).a1 (rlm W i).hs/\zaF V (s.R i).a2 (rlm W i).i) V
 tl:∀ i,i<W.fs.length->i≠me->St (SX B d s) (fun V=>zal V (s.R i).a3 (rlm W i).t) V
 ts:App (SX B d s) B 3 1 (s.R me).a3 (rlm W me).t.length (s.R me).c3 ((rlm W me).t.map (Value.int .i64)) s.t V
 pr:∀ i,i<W.fs.length->St (SX B d s) (fun V=>zbE V (s.P i).1 (prg W i)) V
 qg:∀ i,i<W.fs.length->∀ j,j<(que W i).length->St (SX B d s) (fun V=>zaF V (s.G i j).1 (ml (que W i) j).g) V
 qs:∀ i,i<W.fs.length->App (SX B d s) B 53 2 (s.Q i).1 (que W i).length (s.Q i).2 (zcv (que W i) (s.G i)) (s.q i) V
 pt:zbN (SX B d s) V s.a4 W.pt
 pc:SlA s.a4 W.pt.length s.c4
structure SAp (B d n:Nat) (s:SD):Prop where
 d0:B<=d
 g1:B<=s.g1
 g2:B<=s.g2
 g3:B<=s.g3
 d1:d≠s.g1
 d2:d≠s.g2
 d3:d≠s.g3
 g12:s.g1≠s.g2
 g13:s.g1≠s.g3
 g23:s.g2≠s.g3
 tt:∀ b,s.t=some b->b≠d/\b≠s.g1/\b≠s.g2/\b≠s.g3/\∀ i,s.q i≠some b
 qq:∀ i b,s.q i=some b->i<n/\b≠d/\b≠s.g1/\b≠s.g2/\b≠s.g3/\∀ j,s.q j=some b->j=i
def zoN(W:Wl)(R:Nat->RA)(j:Nat):Value :=
 if j % 4=0 then .slice (R (j / 4)).a0 (rlm W (j / 4)).s.length (R (j / 4)).c0
 else if j % 4=1 then .slice (R (j / 4)).a1 (rlm W (j / 4)).hs.length (R (j / 4)).c1
 else if j % 4=2 then .slice (R (j / 4)).a2 (rlm W (j / 4)).i.length (R (j / 4)).c2
 else .slice (R (j / 4)).a3 (rlm W (j / 4)).t.length (R (j / 4)).c3
theorem zik(W:Wl)(R:Nat->RA)(i:Nat):zoN W R (i*4)=.slice (R i).a0 (rlm W i).s.length (R i).c0:=by unfold zoN;rw[yb (by omega),show i*4 / 4=i by omega]
theorem zil(W:Wl)(R:Nat->RA)(i:Nat):zoN W R (i*4+1)=.slice (R i).a1 (rlm W i).hs.length (R i).c1:=by unfold zoN;rw[ya (by omega),yb (by omega),show (i*4+1) / 4=i by omega]
theorem zjw(W:Wl)(R:Nat->RA)(i:Nat):zoN W R (i*4+2)=.slice (R i).a2 (rlm W i).i.length (R i).c2:=by unfold zoN;rw[ya (by omega),ya (by omega),yb (by omega),show (i*4+2) / 4=i by omega]
theorem zjx(W:Wl)(R:Nat->RA)(i:Nat):zoN W R (i*4+3)=.slice (R i).a3 (rlm W i).t.length (R i).c3:=by unfold zoN;rw[ya (by omega),ya (by omega),ya (by omega),show (i*4+3) / 4=i by omega]
theorem zlR{W E:Wl}{R D:Nat->RA}{j:Nat}(h:rlm E (j / 4)=rlm W (j / 4))(F:D (j / 4)=R (j / 4)):zoN E D j=zoN W R j:=by unfold zoN;rw[h,F]
structure W0 where
 w:World
 P:World->Prop
abbrev W0.heap(x:W0):=x.w.heap
structure SW (w0:W0) (d me:Nat) (W:Wl) (s:SD) (V:World):Prop where
 bel:Below w0.heap.size w0.w V
 rt:zan W
 sf:me<W.fs.length
 ap:SAp w0.heap.size d W.fs.length s
 box:V.heap[d]?=some (.cells #[.slice s.a0 W.fs.length s.c0,.slice (some ⟨s.g1,0,none⟩) W.fs.length W.fs.length,.slice (some ⟨s.g2,0,none⟩) W.fs.length W.fs.length,.slice (some ⟨s.g3,0,none⟩) W.fs.length W.fs.length,.slice s.a4 W.pt.length s.c4] 28 (0,0))
 r1:V.rowIs s.g1 50 (W.fs.length*4) (zoN W s.R)
 r2:V.rowIs s.g2 34 W.fs.length (fun i=>.slice (s.P i).1 (prg W i).length (s.P i).2)
 r3:V.rowIs s.g3 51 W.fs.length (fun i=>.slice (s.Q i).1 (que W i).length (s.Q i).2)
 dp:SDp w0.heap.size d me W s V
 pg:St (SX w0.heap.size d s) w0.P V
structure SWo (w0:World) (d me:Nat) (W:Wl) (s:SD) (V:World):Prop where
 bel:Below w0.heap.size w0 V
 rt:zan W
 sf:me<W.fs.length
 ap:SAp w0.heap.size d W.fs.length s
 box:V.heap[d]?=some (.cells #[.slice s.a0 W.fs.length s.c0,.slice (some ⟨s.g1,0,none⟩) W.fs.length W.fs.length,.slice (some ⟨s.g2,0,none⟩) W.fs.length W.fs.length,.slice (some ⟨s.g3,0,none⟩) W.fs.length W.fs.length,.slice s.a4 W.pt.length s.c4] 28 (0,0))
 r1:V.rowIs s.g1 50 (W.fs.length*4) (zoN W s.R)
 r2:V.rowIs s.g2 34 W.fs.length (fun i=>.slice (s.P i).1 (prg W i).length (s.P i).2)
 r3:V.rowIs s.g3 51 W.fs.length (fun i=>.slice (s.Q i).1 (que W i).length (s.Q i).2)
 dp:SDp w0.heap.size d me W s V
theorem SW.ghost{D:W0}{d me:Nat}{W:Wl}{s:SD}{V:World}(I:SW D d me W s V){Q:World->Prop}(h:St (SX D.heap.size d s) Q V):SW ⟨D.w,fun V=>D.P V/\Q V⟩ d me W s V:=⟨I.bel,I.rt,I.sf,I.ap,I.box,I.r1,I.r2,I.r3,I.dp,fun E F=>⟨I.pg E F,h E F⟩⟩
theorem SW.drop{w:World}{P Q:World->Prop}{d me:Nat}{W:Wl}{s:SD}{V:World}(I:SW ⟨w,fun V=>P V/\Q V⟩ d me W s V):SW ⟨w,P⟩ d me W s V/\Q V:=⟨⟨I.bel,I.rt,I.sf,I.ap,I.box,I.r1,I.r2,I.r3,I.dp,fun D E=>(I.pg D E).1⟩,I.pg.at.2⟩
theorem SWo.sw{w:World}{d me:Nat}{W:Wl}{s:SD}{V:World}(h:SWo w d me W s V):SW ⟨w,fun V=>zbE V (s.P me).1 (prg W me)⟩ d me W s V:=⟨h.bel,h.rt,h.sf,h.ap,h.box,h.r1,h.r2,h.r3,h.dp,h.dp.pr me h.sf⟩
theorem SDp.lt{B d me:Nat}{W:Wl}{s:SD}{V:World}(h:SDp B d me W s V){n:Nat}(E:SAp B d W.fs.length s):∀ b,s.t=some b\/(∃ i,s.q i=some b)->b<V.heap.size:=fun b D=>by
 rcases D with D |⟨i,D⟩
 ·exact(h.ts.lt b D).1
 ·exact((h.qs i (E.qq i b D).1).lt b D).1
theorem SW.lt{D:W0}{d me:Nat}{W:Wl}{s:SD}{V:World}(I:SW D d me W s V):∀ b,SX D.heap.size d s b->b<V.heap.size:=fun b E=>by
 rcases E with h|h|h|h|h|h
 ·exact yx h I.bel.size
 ·rw[h];exact zau I.box
 ·rw[h];exact I.r1.lt
 ·rw[h];exact I.r2.lt
 ·rw[h];exact I.r3.lt
 ·exact I.dp.lt (n:=0) I.ap b h
theorem SDp.off{B d me:Nat}{W:Wl}{s:SD}{V E:World}(h:SDp B d me W s V)(D:zar (SX B d s) V E)(I:∀ b,s.t=some b\/(∃ i,s.q i=some b)->E.heap[b]?=V.heap[b]?):SDp B d me W s E :=
 ⟨h.fr.off D,h.fc,fun i hi=>(h.rl i hi).off D,fun i hi hs=>(h.tl i hi hs).off D,h.ts.kept D (fun _ _ F=>F) (fun b h=>I b (.inl h)),fun i hi=>(h.pr i hi).off D,fun i hi j J=>(h.qg i hi j J).off D,fun i hi=>(h.qs i hi).kept D (fun _ _ F=>F) (fun b h=>I b (.inr ⟨i,h⟩)),h.pt.off D,h.pc⟩
theorem SW.below{F:W0}{d me:Nat}{W:Wl}{s:SD}{V E:World}(I:SW F d me W s V)(D:Below V.heap.size V E):SW F d me W s E :=
 ⟨I.bel.trans (D.mono I.bel.size),I.rt,I.sf,I.ap,zav I.box D,I.r1.of_block (D.block _ I.r1.lt),I.r2.of_block (D.block _ I.r2.lt),I.r3.of_block (D.block _ I.r3.lt),I.dp.off (zar.of_below D) (fun b h=>D.block b (I.dp.lt (n:=0) I.ap b h)),I.pg.off (zar.of_below D)⟩
theorem SW.deep{E:W0}{d me:Nat}{W:Wl}{s:SD}{V:World}(I:SW E d me W s V){z o:Nat}(v:Value)(F:z=d\/z=s.g1\/z=s.g2\/z=s.g3):SDp E.heap.size d me W s (V.setCell ⟨z,o,none⟩ v):=by
 refine I.dp.off (zar.set V v ?_) (fun b D=>ys _ _ _ _ ?_)
 ·rcases F with h|h|h|h
  ·exact .inr (.inl h)
  ·exact .inr (.inr (.inl h))
  ·exact .inr (.inr (.inr (.inl h)))
  ·exact .inr (.inr (.inr (.inr (.inl h))))
 ·have key:b≠d/\b≠s.g1/\b≠s.g2/\b≠s.g3:=by
   rcases D with D |⟨i,D⟩
   ·have:=I.ap.tt b D;exact⟨this.1,this.2.1,this.2.2.1,this.2.2.2.1⟩
   ·have:=I.ap.qq i b D;exact⟨this.2.1,this.2.2.1,this.2.2.2.1,this.2.2.2.2.1⟩
  show b≠z;omega
theorem SW.frames{D:W0}{d me:Nat}{W:Wl}{s:SD}{V:World}(I:SW D d me W s V){a:Option Addr}{c:Nat}{L:List Fr}(hn:St (SX D.heap.size d s) (fun V=>zaS V a L) V)(hl:L.length=W.fs.length)(E:zan { W with fs:=L })(hc:SlA a L.length c) :
  SW D d me { W with fs:=L } { s with a0:=a,c0:=c } (V.setCell ⟨d,0,none⟩ (.slice a W.fs.length c)):=by
 have hd:=I.deep (o:=0) (.slice a W.fs.length c) (.inl rfl);have ha:=I.ap;refine⟨I.bel.setCell ha.d0 _,E,by show me<L.length;rw[hl];exact I.sf,⟨ha.d0,ha.g1,ha.g2,ha.g3,ha.d1,ha.d2,ha.d3,ha.g12,ha.g13,ha.g23,ha.tt,by show ∀ i b,s.q i=some b->i<L.length/\_;rw[hl];exact ha.qq⟩,?_,?_,?_,?_,?_,I.pg.off (zar.set V _ (.inr (.inl rfl)))⟩
 ·show _=some (Obj.cells #[.slice a L.length c,.slice (some ⟨s.g1,0,none⟩) L.length L.length,.slice (some ⟨s.g2,0,none⟩) L.length L.length,.slice (some ⟨s.g3,0,none⟩) L.length L.length,.slice s.a4 W.pt.length s.c4] _ _);rw[hl];exact zaG (i:=0) I.box
 ·show World.rowIs _ _ _ (L.length*4) _;rw[hl];exact I.r1.setOther (Ne.symm ha.d1) _
 ·show World.rowIs _ _ _ L.length _;rw[hl];exact I.r2.setOther (Ne.symm ha.d2) _
 ·show World.rowIs _ _ _ L.length _;rw[hl];exact I.r3.setOther (Ne.symm ha.d3) _
 ·refine⟨hn.off (zar.set V _ (.inr (.inl rfl))),hc,?_,?_,hd.ts,?_,?_,?_,hd.pt,hd.pc⟩
  ·show ∀ i,i<L.length->_;rw[hl];exact hd.rl
  ·show ∀ i,i<L.length->_;rw[hl];exact hd.tl
  ·show ∀ i,i<L.length->_;rw[hl];exact hd.pr
  ·show ∀ i,i<L.length->_;rw[hl];exact hd.qg
  ·show ∀ i,i<L.length->_;rw[hl];exact hd.qs
theorem SW.ports{D:W0}{d me:Nat}{W:Wl}{s:SD}{V:World}(I:SW D d me W s V){a:Option Addr}{c:Nat}{L:List Pt}(hn:zbN (SX D.heap.size d s) V a L)(E:zan { W with pt:=L })(hc:SlA a L.length c) :
  SW D d me { W with pt:=L } { s with a4:=a,c4:=c } (V.setCell ⟨d,4,none⟩ (.slice a L.length c)):=by
 have hd:=I.deep (o:=4) (.slice a L.length c) (.inl rfl);have ha:=I.ap;exact⟨I.bel.setCell ha.d0 _,E,I.sf,⟨ha.d0,ha.g1,ha.g2,ha.g3,ha.d1,ha.d2,ha.d3,ha.g12,ha.g13,ha.g23,ha.tt,ha.qq⟩,zaG (i:=4) I.box,I.r1.setOther (Ne.symm ha.d1) _,I.r2.setOther (Ne.symm ha.d2) _,I.r3.setOther (Ne.symm ha.d3) _,⟨hd.fr,hd.fc,hd.rl,hd.tl,hd.ts,hd.pr,hd.qg,hd.qs,hn.off (zar.set V _ (.inr (.inl rfl))),hc⟩,I.pg.off (zar.set V _ (.inr (.inl rfl)))⟩
theorem SW.realm{O:W0}{d me:Nat}{W:Wl}{s:SD}{V:World}(I:SW O d me W s V){k:Nat}{A:RA}{Q:Rl}(hk:k<W.fs.length)(hQ:zaE Q=0)(hr:St (SX O.heap.size d s) (fun V=>zah V A.a0 Q.s/\zaw V A.a1 Q.hs/\zaF V A.a2 Q.i) V)(ht:St (SX O.heap.size d s) (fun V=>zal V A.a3 Q.t) V)(hc:k=me->A.c3=Q.t.length/\∀ Z,A.a3=some Z->∃ b o,Z=⟨b,o,none⟩){V' : World}
  (hV:V' =(((V.setCell ⟨s.g1,k*4,none⟩ (.slice A.a0 Q.s.length A.c0)).setCell ⟨s.g1,k*4+1,none⟩ (.slice A.a1 Q.hs.length A.c1)).setCell ⟨s.g1,k*4+2,none⟩ (.slice A.a2 Q.i.length A.c2)).setCell ⟨s.g1,k*4+3,none⟩ (.slice A.a3 Q.t.length A.c3)) :
  SW O d me (setR W k Q) { s with R:=fun i=>if i=k then A else s.R i,t:=if k=me then none else s.t } V' := by
 subst hV;have ha:=I.ap;have a5:k<W.rs.length:=by rw[I.rt.lr];exact hk
 have U:∀ X:Nat->Prop,X s.g1->zar X V ((((V.setCell ⟨s.g1,k*4,none⟩ (.slice A.a0 Q.s.length A.c0)).setCell ⟨s.g1,k*4+1,none⟩ (.slice A.a1 Q.hs.length A.c1)).setCell ⟨s.g1,k*4+2,none⟩ (.slice A.a2 Q.i.length A.c2)).setCell ⟨s.g1,k*4+3,none⟩ (.slice A.a3 Q.t.length A.c3)):=fun X hx=>(((zar.set _ _ hx).trans (zar.set _ _ hx)).trans (zar.set _ _ hx)).trans (zar.set _ _ hx)
 have E:∀ b,b≠s.g1->((((V.setCell ⟨s.g1,k*4,none⟩ (.slice A.a0 Q.s.length A.c0)).setCell ⟨s.g1,k*4+1,none⟩ (.slice A.a1 Q.hs.length A.c1)).setCell ⟨s.g1,k*4+2,none⟩ (.slice A.a2 Q.i.length A.c2)).setCell ⟨s.g1,k*4+3,none⟩ (.slice A.a3 Q.t.length A.c3)).heap[b]?=V.heap[b]?:=fun b D=>by
  rw[ys _ _ _ _ D,ys _ _ _ _ D,ys _ _ _ _ D,ys _ _ _ _ D]
 have M:SX O.heap.size d s s.g1:=.inr (.inr (.inl rfl))
 have hd:SDp O.heap.size d me W s _:=I.dp.off (U _ M) (fun b D=>E b (by
  rcases D with D |⟨i,D⟩
  ·exact(ha.tt b D).2.1
  ·exact(ha.qq i b D).2.2.1))
 have J:∀ b,SX O.heap.size d { s with R:=fun i=>if i=k then A else s.R i,t:=if k=me then none else s.t } b->SX O.heap.size d s b:=fun b D=>by
  rcases D with h|h|h|h|h|h|h
  ·exact .inl h
  ·exact .inr (.inl h)
  ·exact .inr (.inr (.inl h))
  ·exact .inr (.inr (.inr (.inl h)))
  ·exact .inr (.inr (.inr (.inr (.inl h))))
  ·refine .inr (.inr (.inr (.inr (.inr (.inl ?_)))));dsimp only at h
   split at h
   ·cases h
   ·exact h
  ·exact .inr (.inr (.inr (.inr (.inr (.inr h)))))
 have F:∀ i,rlm (setR W k Q) i=if i=k then Q else rlm W i:=fun i=>zdB a5
 refine⟨I.bel.trans ⟨rfl,rfl,rfl,by simp,fun b D=>E b (by have:=ha.g1;omega)⟩,I.rt.setR hQ hk,I.sf,⟨ha.d0,ha.g1,ha.g2,ha.g3,ha.d1,ha.d2,ha.d3,ha.g12,ha.g13,ha.g23,fun b D=>ha.tt b ?_,ha.qq⟩,(E d ha.d1).trans I.box,?_,I.r2.of_block (E _ (Ne.symm ha.g12)),I.r3.of_block (E _ (Ne.symm ha.g13)),?_,(I.pg.off (U _ M)).less J⟩
 ·dsimp only at D
  split at D
  ·cases D
  ·exact D
 ·refine yD ((((I.r1.set (k*4) _).set (k*4+1) _).set (k*4+2) _).set (k*4+3) _) (fun j _=>?_);by_cases e:j / 4=k
  ·rcases(by omega:j=k*4\/j=k*4+1\/j=k*4+2\/j=k*4+3) with rfl|rfl|rfl|rfl
   ·rw[ya (by omega),ya (by omega),ya (by omega),yb rfl,zik,F,yb rfl];simp
   ·rw[ya (by omega),ya (by omega),yb rfl,zil,F,yb rfl];simp
   ·rw[ya (by omega),yb rfl,zjw,F,yb rfl];simp
   ·rw[yb rfl,zjx,F,yb rfl];simp
  ·rw[ya (by omega),ya (by omega),ya (by omega),ya (by omega)];exact(zlR (by rw[F,ya e]) (ya e)).symm
 ·refine⟨hd.fr.less J,hd.fc,fun i hi=>?_,fun i hi hs=>?_,?_,fun i hi=>(hd.pr i hi).less J,fun i hi j hj=>(hd.qg i hi j hj).less J,fun i hi=>(hd.qs i hi).kept (zar.refl _ _) (fun b _ D=>J b D) (fun b _=>rfl),fun w' T=>hd.pt w' (T.mono J),hd.pc⟩
  ·rw[F];dsimp only;by_cases e:i=k
   ·rw[yb e,yb e];exact(hr.off (U _ M)).less J
   ·rw[ya e,ya e];exact(hd.rl i hi).less J
  ·rw[F];dsimp only;by_cases e:i=k
   ·rw[yb e,yb e];exact(ht.off (U _ M)).less J
   ·rw[ya e,ya e];exact(hd.tl i hi hs).less J
  ·generalize SX O.heap.size d { s with R:=fun i=>if i=k then A else s.R i,t:=if k=me then none else s.t }=Y at J |-;rw[F];dsimp only;by_cases e:me=k
   ·rw[yb e,yb e,yb e.symm];refine⟨by simp,.inl ⟨rfl,(hc e.symm).1,⟨fun h=>?_,(hc e.symm).2⟩,fun w' T Z h j u hu=>?_⟩⟩
    ·have:=(ht.at);rw[h] at this;exact ztj this rfl
    ·exact zpo ((ht.off (U _ M)) w' (T.mono J)) Z h j u hu
   ·rw[ya e,ya e,ya (Ne.symm e)];exact hd.ts.kept (zar.refl _ _) (fun b _ D=>J b D) (fun b _=>rfl)
theorem SW.setIn{J:W0}{d me:Nat}{W:Wl}{s:SD}{V:World}(I:SW J d me W s V){a:Option Addr}{c:Nat}{G:List Cl}(O:zaE { rlm W me with i:=G }=0)(hg:St (SX J.heap.size d s) (fun V=>zaF V a G) V) :
  SW J d me (setR W me { rlm W me with i:=G }) { s with R:=fun i=>if i=me then { s.R me with a2:=a,c2:=c } else s.R i } (V.setCell ⟨s.g1,me*4+2,none⟩ (.slice a G.length c)):=by
 have ha:=I.ap;have M:me<W.rs.length:=by rw[I.rt.lr];exact I.sf
 have hd:=I.deep (z:=s.g1) (o:=me*4+2) (.slice a G.length c) (.inr (.inl rfl));have F:SX J.heap.size d s s.g1:=.inr (.inr (.inl rfl));have D:∀ i,rlm (setR W me { rlm W me with i:=G }) i=if i=me then { rlm W me with i:=G } else rlm W i:=fun i=>zdB M
 refine⟨I.bel.setCell ha.g1 _,I.rt.setR O I.sf,I.sf,⟨ha.d0,ha.g1,ha.g2,ha.g3,ha.d1,ha.d2,ha.d3,ha.g12,ha.g13,ha.g23,ha.tt,ha.qq⟩,(ys _ _ _ _ ha.d1).trans I.box,?_,I.r2.setOther (Ne.symm ha.g12) _,I.r3.setOther (Ne.symm ha.g13) _,?_,I.pg.off (zar.set V _ F)⟩
 ·refine yD (I.r1.set (me*4+2) _) (fun j _=>?_);by_cases e:j / 4=me
  ·rcases(by omega:j=me*4\/j=me*4+1\/j=me*4+2\/j=me*4+3) with rfl|rfl|rfl|rfl
   ·rw[ya (by omega),zik,zik,D,yb rfl];simp
   ·rw[ya (by omega),zil,zil,D,yb rfl];simp
   ·rw[yb rfl,zjw,D,yb rfl];simp
   ·rw[ya (by omega),zjx,zjx,D,yb rfl];simp
  ·rw[ya (by omega)];exact(zlR (by rw[D,ya e]) (ya e)).symm
 ·refine⟨hd.fr,hd.fc,fun i hi=>?_,fun i hi hs=>?_,?_,hd.pr,hd.qg,hd.qs,hd.pt,hd.pc⟩
  ·rw[D];dsimp only;by_cases e:i=me
   ·rw[yb e,yb e];exact fun w' E=>⟨(hd.rl me I.sf w' E).1,(hd.rl me I.sf w' E).2.1,hg.off (zar.set V _ F) w' E⟩
   ·rw[ya e,ya e];exact hd.rl i hi
  ·rw[D];dsimp only;rw[ya hs,ya hs];exact hd.tl i hi hs
  ·rw[D];dsimp only;rw[yb rfl,yb rfl];exact hd.ts
theorem zmI{D:W0}{V E:World}{r:Option Nat}(F:Below D.heap.size D.w V)(hg:V.grownBy E r)(I:∀ b,r=some b->D.heap.size<=b):Below D.heap.size D.w E :=
 F.trans ⟨hg.os,hg.tape,hg.output,hg.size,fun b h=>hg.block b (yx h F.size) (fun e=>by have:=I b e.symm;omega)⟩
theorem SW.told{U:W0}{d me:Nat}{W:Wl}{s:SD}{V:World}(I:SW U d me W s V){T V' : World}{g cap:Nat}{o:Int}(hg:V.grownBy T s.t)(ho:T.ownsRow U.heap.size 3 1 (.slice (some ⟨g,0,none⟩) ((rlm W me).t.length+1) cap) ((rlm W me).t.length+1) ((rlm W me).t.map (Value.int .i64)++[.int .i64 o]))(Z:s.t=some g\/V.heap.size<=g)(hQ:zaE { rlm W me with t:=(rlm W me).t++[o] }=0)
  (hV:V' = T.setCell ⟨s.g1,me*4+3,none⟩ (.slice (some ⟨g,0,none⟩) ((rlm W me).t.length+1) cap)) :
  SW U d me (zjK W me o) { s with R:=fun i=>if i=me then { s.R me with a3:=some ⟨g,0,none⟩,c3:=cap } else s.R i,t:=some g } V' := by
 subst hV;have ha:=I.ap;have a5:me<W.rs.length:=by rw[I.rt.lr];exact I.sf
 have E:∀ i,rlm (zjK W me o) i=if i=me then { rlm W me with t:=(rlm W me).t++[o] } else rlm W i:=fun i=>zdB a5
 have F:∀ b,b<V.heap.size->SX U.heap.size d { s with R:=fun i=>if i=me then { s.R me with a3:=some ⟨g,0,none⟩,c3:=cap } else s.R i,t:=some g } b->SX U.heap.size d s b:=fun b a7 D=>by
  rcases D with h|h|h|h|h|h|h
  ·exact .inl h
  ·exact .inr (.inl h)
  ·exact .inr (.inr (.inl h))
  ·exact .inr (.inr (.inr (.inl h)))
  ·exact .inr (.inr (.inr (.inr (.inl h))))
  ·cases h;rcases Z with h|h
   ·exact .inr (.inr (.inr (.inr (.inr (.inl h)))))
   ·omega
  ·exact .inr (.inr (.inr (.inr (.inr (.inr h)))))
 have J:zar (SX U.heap.size d s) V T:=zar.grown hg (fun b D=>.inr (.inr (.inr (.inr (.inr (.inl D))))));have M:∀ X:Nat->Prop,X s.g1->zar X T (T.setCell ⟨s.g1,me*4+3,none⟩ (.slice (some ⟨g,0,none⟩) ((rlm W me).t.length+1) cap)):=fun X hx=>zar.set T _ hx;have O:SX U.heap.size d { s with R:=fun i=>if i=me then { s.R me with a3:=some ⟨g,0,none⟩,c3:=cap } else s.R i,t:=some g } s.g1:=.inr (.inr (.inl rfl));have key:∀ b,b<V.heap.size->b≠s.g1->s.t≠some b->(T.setCell ⟨s.g1,me*4+3,none⟩ (.slice (some ⟨g,0,none⟩) ((rlm W me).t.length+1) cap)).heap[b]?=V.heap[b]?:=fun b h1 h2 h3=>(ys _ _ _ _ h2).trans (hg.block b h1 (fun e=>h3 e.symm));have k0:∀ b,s.t=some b->b≠d/\b≠s.g1/\b≠s.g2/\b≠s.g3:=fun b D=>⟨(ha.tt b D).1,(ha.tt b D).2.1,(ha.tt b D).2.2.1,(ha.tt b D).2.2.2.1⟩;have ld:=zau I.box;have l1:=I.r1.lt;have l2:=I.r2.lt;have l3:=I.r3.lt;have kq:∀ i b,s.q i=some b->b<V.heap.size:=fun i b D=>I.dp.lt (n:=0) ha b (.inr ⟨i,D⟩);have a6:U.heap.size<=g:=by have:=(ho.lt g rfl).1;exact this
 refine⟨(zmI I.bel hg (fun b D=>(I.dp.ts.lt b D).2)).setCell ha.g1 _,I.rt.setR hQ I.sf,I.sf,⟨ha.d0,ha.g1,ha.g2,ha.g3,ha.d1,ha.d2,ha.d3,ha.g12,ha.g13,ha.g23,fun b D=>?_,ha.qq⟩,(key d ld ha.d1 (fun h=>(k0 d h).1 rfl)).trans I.box,?_,I.r2.of_block (key _ l2 (Ne.symm ha.g12) (fun h=>(k0 _ h).2.2.1 rfl)),I.r3.of_block (key _ l3 (Ne.symm ha.g13) (fun h=>(k0 _ h).2.2.2 rfl)),?_,(I.pg.grow J F).off (M _ O)⟩
 ·cases D;rcases Z with h|h
  ·exact ha.tt g h
  ·exact⟨by omega,by show g≠s.g1;omega,by show g≠s.g2;omega,by show g≠s.g3;omega,fun i e=>by have:=kq i g e;omega⟩
 ·refine yD ((I.r1.of_block (hg.block _ l1 (fun e=>(k0 _ e.symm).2.1 rfl))).set (me*4+3) _) (fun j _=>?_);by_cases e:j / 4=me
  ·rcases(by omega:j=me*4\/j=me*4+1\/j=me*4+2\/j=me*4+3) with rfl|rfl|rfl|rfl
   ·rw[ya (by omega),zik,zik,E,yb rfl];simp
   ·rw[ya (by omega),zil,zil,E,yb rfl];simp
   ·rw[ya (by omega),zjw,zjw,E,yb rfl];simp
   ·rw[yb rfl,zjx,E,yb rfl];simp
  ·rw[ya (by omega)];exact(zlR (by rw[E,ya e]) (ya e)).symm
 ·refine⟨(I.dp.fr.grow J F).off (M _ O),I.dp.fc,fun i hi=>?_,fun i hi hs=>?_,?_,fun i hi=>((I.dp.pr i hi).grow J F).off (M _ O),fun i hi j hj=>((I.dp.qg i hi j hj).grow J F).off (M _ O),fun i hi=>((I.dp.qs i hi).kept J F (fun b D=>hg.block b (kq i b D) (fun e=>(ha.tt b e.symm).2.2.2.2 i D))).kept (M _ O) (fun _ _ h=>h) (fun b D=>ys _ _ _ _ (ha.qq i b D).2.2.1),(I.dp.pt.grow J F).off (M _ O),I.dp.pc⟩
  ·rw[E];dsimp only;by_cases e:i=me
   ·subst e;rw[yb rfl,yb rfl];exact((I.dp.rl i hi).grow J F).off (M _ O)
   ·rw[ya e,ya e];exact((I.dp.rl i hi).grow J F).off (M _ O)
  ·rw[E];dsimp only;rw[ya hs,ya hs];exact((I.dp.tl i hi hs).grow J F).off (M _ O)
  ·rw[E];dsimp only;rw[yb rfl,yb rfl];dsimp only;rw[List.length_append,List.length_singleton,List.map_append];refine⟨by simp,.inr ⟨g,rfl,rfl,zaJ ho (fun k hk=>?_)⟩⟩;cases hk;refine ys _ _ _ _ ?_;rcases Z with h|h
   ·exact(k0 g h).2.1
   ·show g≠s.g1;omega
theorem zul{W:Wl}{k i:Nat}{q:List Ml}(D:k<W.qs.length):que { W with qs:=W.qs.set k q } i=if i=k then q else que W i:=zba _ _ _ _ _ D
theorem zlO{W:Wl}{k i:Nat}{q:List Ac}(D:k<W.ps.length):prg { W with ps:=W.ps.set k q } i=if i=k then q else prg W i:=zba _ _ _ _ _ D
theorem SW.mail{T:W0}{d me:Nat}{W:Wl}{s:SD}{V:World}(I:SW T d me W s V){U V' : World}{k g cap:Nat}{m:Ml}{ga:Option Addr × Nat}(hk:k<W.fs.length)(hm:St (SX T.heap.size d s) (fun V=>zaF V ga.1 m.g) V)(hg:V.grownBy U (s.q k))(ho:U.ownsRow T.heap.size 53 2 (.slice (some ⟨g,0,none⟩) ((que W k).length+1) cap) ((que W k).length+1) (zcv (que W k) (s.G k)++[.int .i64 m.f,.slice ga.1 m.g.length ga.2]))(J:s.q k=some g\/V.heap.size<=g)(hR:zan { W with qs:=W.qs.set k (que W k++[m]) })
  (hV:V' = U.setCell ⟨s.g3,k,none⟩ (.slice (some ⟨g,0,none⟩) ((que W k).length+1) cap)) :
  SW T d me { W with qs:=W.qs.set k (que W k++[m]) } { s with Q:=fun i=>if i=k then (some ⟨g,0,none⟩,cap) else s.Q i,G:=fun i=>if i=k then (fun j=>if j=(que W k).length then ga else s.G k j) else s.G i,q:=fun i=>if i=k then some g else s.q i } V' := by
 subst hV;have ha:=I.ap;have a6:k<W.qs.length:=by rw[I.rt.lq];exact hk
 have a5:∀ i,que { W with qs:=W.qs.set k (que W k++[m]) } i=if i=k then que W k++[m] else que W i:=fun i=>zul a6
 have E:∀ b,b<V.heap.size->SX T.heap.size d { s with Q:=fun i=>if i=k then (some ⟨g,0,none⟩,cap) else s.Q i,G:=fun i=>if i=k then (fun j=>if j=(que W k).length then ga else s.G k j) else s.G i,q:=fun i=>if i=k then some g else s.q i } b->SX T.heap.size d s b:=fun b a7 D=>by
  rcases D with h|h|h|h|h|h |⟨i,h⟩
  ·exact .inl h
  ·exact .inr (.inl h)
  ·exact .inr (.inr (.inl h))
  ·exact .inr (.inr (.inr (.inl h)))
  ·exact .inr (.inr (.inr (.inr (.inl h))))
  ·exact .inr (.inr (.inr (.inr (.inr (.inl h)))))
  ·dsimp only at h
   split at h
   ·cases h;rcases J with h|h
    ·exact .inr (.inr (.inr (.inr (.inr (.inr ⟨k,h⟩)))))
    ·omega
   ·exact .inr (.inr (.inr (.inr (.inr (.inr ⟨i,h⟩)))))
 have M:zar (SX T.heap.size d s) V U:=zar.grown hg (fun b D=>.inr (.inr (.inr (.inr (.inr (.inr ⟨k,D⟩))))));have O:∀ X:Nat->Prop,X s.g3->zar X U (U.setCell ⟨s.g3,k,none⟩ (.slice (some ⟨g,0,none⟩) ((que W k).length+1) cap)):=fun X hx=>zar.set U _ hx;have F:SX T.heap.size d { s with Q:=fun i=>if i=k then (some ⟨g,0,none⟩,cap) else s.Q i,G:=fun i=>if i=k then (fun j=>if j=(que W k).length then ga else s.G k j) else s.G i,q:=fun i=>if i=k then some g else s.q i } s.g3:=.inr (.inr (.inr (.inr (.inl rfl))));have key:∀ b,b<V.heap.size->b≠s.g3->s.q k≠some b->(U.setCell ⟨s.g3,k,none⟩ (.slice (some ⟨g,0,none⟩) ((que W k).length+1) cap)).heap[b]?=V.heap[b]?:=fun b h1 h2 h3=>(ys _ _ _ _ h2).trans (hg.block b h1 (fun e=>h3 e.symm));have k0:∀ b,s.q k=some b->b≠d/\b≠s.g1/\b≠s.g2/\b≠s.g3:=fun b D=>⟨(ha.qq k b D).2.1,(ha.qq k b D).2.2.1,(ha.qq k b D).2.2.2.1,(ha.qq k b D).2.2.2.2.1⟩;have ld:=zau I.box;have l1:=I.r1.lt;have l2:=I.r2.lt;have l3:=I.r3.lt;have kq:∀ i b,s.q i=some b->b<V.heap.size:=fun i b D=>I.dp.lt (n:=0) ha b (.inr ⟨i,D⟩);have kt:∀ b,s.t=some b->b<V.heap.size:=fun b D=>I.dp.lt (n:=0) ha b (.inl D)
 have ng:g≠d/\g≠s.g1/\g≠s.g2/\g≠s.g3:=by
  rcases J with h|h
  ·exact k0 g h
  ·omega
 refine⟨(zmI I.bel hg (fun b D=>((I.dp.qs k hk).lt b D).2)).setCell ha.g3 _,hR,I.sf,⟨ha.d0,ha.g1,ha.g2,ha.g3,ha.d1,ha.d2,ha.d3,ha.g12,ha.g13,ha.g23,fun b D=>⟨(ha.tt b D).1,(ha.tt b D).2.1,(ha.tt b D).2.2.1,(ha.tt b D).2.2.2.1,fun i e=>?_⟩,fun i b D=>?_⟩,(key d ld ha.d3 (fun h=>(k0 d h).1 rfl)).trans I.box,I.r1.of_block (key _ l1 ha.g13 (fun h=>(k0 _ h).2.1 rfl)),I.r2.of_block (key _ l2 ha.g23 (fun h=>(k0 _ h).2.2.1 rfl)),?_,?_,(I.pg.grow M E).off (O _ F)⟩
 ·dsimp only at e
  split at e
  ·cases e;rcases J with h|h
   ·exact(ha.tt g D).2.2.2.2 k h
   ·have:=kt g D;omega
  ·exact(ha.tt b D).2.2.2.2 i e
 ·dsimp only at D
  split at D
  ·rename_i ei;cases D;refine⟨by rw[ei];exact hk,ng.1,ng.2.1,ng.2.2.1,ng.2.2.2,fun j e=>?_⟩;dsimp only at e
   split at e
   ·rename_i ej;rw[ei,ej]
   ·rcases J with h|h
    ·rw[ei];exact(ha.qq k g h).2.2.2.2.2 j e
    ·have:=kq j g e;omega
  ·rename_i ei;have Z:=ha.qq i b D;refine⟨Z.1,Z.2.1,Z.2.2.1,Z.2.2.2.1,Z.2.2.2.2.1,fun j e=>?_⟩;dsimp only at e
   split at e
   ·cases e;rcases J with h|h
    ·exact absurd (Z.2.2.2.2.2 k h) (fun e2=>ei e2.symm)
    ·have:=kq i g D;omega
   ·exact Z.2.2.2.2.2 j e
 ·refine yD ((I.r3.of_block (hg.block _ l3 (fun e=>(k0 _ e.symm).2.2.2 rfl))).set k _) (fun j _=>?_);dsimp only;rw[a5];by_cases e:j=k
  ·rw[yb e,yb e,yb e,List.length_append,List.length_singleton]
  ·rw[ya e,ya e,ya e]
 ·refine⟨(I.dp.fr.grow M E).off (O _ F),I.dp.fc,fun i hi=>((I.dp.rl i hi).grow M E).off (O _ F),fun i hi hs=>((I.dp.tl i hi hs).grow M E).off (O _ F),(I.dp.ts.kept M E (fun b D=>hg.block b (kt b D) (fun e=>(ha.tt b D).2.2.2.2 k e.symm))).kept (O _ F) (fun _ _ h=>h) (fun b D=>ys _ _ _ _ (ha.tt b D).2.2.2.1),fun i hi=>((I.dp.pr i hi).grow M E).off (O _ F),fun i hi j hj=>?_,fun i hi=>?_,(I.dp.pt.grow M E).off (O _ F),I.dp.pc⟩
  ·rw[a5] at hj |-;dsimp only;by_cases e:i=k
   ·rw[yb e] at hj;rw[yb e,yb e];rw[List.length_append,List.length_singleton] at hj;by_cases ej:j=(que W k).length
    ·rw[yb ej,ej,zox];exact(hm.grow M E).off (O _ F)
    ·rw[ya ej,ztC (by omega)];exact((I.dp.qg k hk j (by omega)).grow M E).off (O _ F)
   ·rw[ya e] at hj;rw[ya e,ya e];exact((I.dp.qg i hi j hj).grow M E).off (O _ F)
  ·generalize SX T.heap.size d { s with Q:=fun i=>if i=k then (some ⟨g,0,none⟩,cap) else s.Q i,G:=fun i=>if i=k then (fun j=>if j=(que W k).length then ga else s.G k j) else s.G i,q:=fun i=>if i=k then some g else s.q i }=Y at E F |-;rw[a5];dsimp only;by_cases e:i=k
   ·rw[yb e,yb e,yb e,yb e,<- zoJ,List.length_append,List.length_singleton];refine⟨by rw[List.length_append,zfN];simp;omega,.inr ⟨g,rfl,rfl,zaJ ho (fun b D=>?_)⟩⟩;cases D;exact ys _ _ _ _ ng.2.2.2
   ·rw[ya e,ya e,ya e,ya e];exact((I.dp.qs i hi).kept M E (fun b D=>hg.block b (kq i b D) (fun e2=>e ((ha.qq k b e2.symm).2.2.2.2.2 i D)))).kept (O _ F) (fun _ _ h=>h) (fun b D=>ys _ _ _ _ (ha.qq i b D).2.2.2.2.1)
theorem SW.queue{F:W0}{d me:Nat}{W:Wl}{s:SD}{V:World}(I:SW F d me W s V){k c:Nat}{a:Option Addr}{q:List Ml}{G:Nat->Option Addr × Nat}(hk:k<W.fs.length)(hq:St (SX F.heap.size d s) (fun V=>∀ O,a=some O->∀ j u,(zcv q G)[j]?=some u->V.cell? (O.add j)=some u) V)(hn:(a=none->q.length=0)/\∀ O,a=some O->∃ b o,O=⟨b,o,none⟩)(hc:c=q.length)(hm:∀ j,j<q.length->St (SX F.heap.size d s) (fun V=>zaF V (G j).1 (ml q j).g) V)(hR:zan { W with qs:=W.qs.set k q }) :
  SW F d me { W with qs:=W.qs.set k q } { s with Q:=fun i=>if i=k then (a,c) else s.Q i,G:=fun i=>if i=k then G else s.G i,q:=fun i=>if i=k then none else s.q i } (V.setCell ⟨s.g3,k,none⟩ (.slice a q.length c)):=by
 have ha:=I.ap;have U:k<W.qs.length:=by rw[I.rt.lq];exact hk
 have J:∀ i,que { W with qs:=W.qs.set k q } i=if i=k then q else que W i:=fun i=>zul U
 have D:∀ b,SX F.heap.size d { s with Q:=fun i=>if i=k then (a,c) else s.Q i,G:=fun i=>if i=k then G else s.G i,q:=fun i=>if i=k then none else s.q i } b->SX F.heap.size d s b:=fun b E=>by
  rcases E with h|h|h|h|h|h |⟨i,h⟩
  ·exact .inl h
  ·exact .inr (.inl h)
  ·exact .inr (.inr (.inl h))
  ·exact .inr (.inr (.inr (.inl h)))
  ·exact .inr (.inr (.inr (.inr (.inl h))))
  ·exact .inr (.inr (.inr (.inr (.inr (.inl h)))))
  ·dsimp only at h
   split at h
   ·cases h
   ·exact .inr (.inr (.inr (.inr (.inr (.inr ⟨i,h⟩)))))
 have hd:=I.deep (z:=s.g3) (o:=k) (.slice a q.length c) (.inr (.inr (.inr rfl)));have x1:SX F.heap.size d s s.g3:=.inr (.inr (.inr (.inr (.inl rfl))));have o2:zar (SX F.heap.size d s) V (V.setCell ⟨s.g3,k,none⟩ (.slice a q.length c)):=zar.set V _ x1;refine⟨I.bel.setCell ha.g3 _,hR,I.sf,⟨ha.d0,ha.g1,ha.g2,ha.g3,ha.d1,ha.d2,ha.d3,ha.g12,ha.g13,ha.g23,fun b E=>⟨(ha.tt b E).1,(ha.tt b E).2.1,(ha.tt b E).2.2.1,(ha.tt b E).2.2.2.1,fun i e=>?_⟩,fun i b E=>?_⟩,(ys _ _ _ _ ha.d3).trans I.box,I.r1.setOther ha.g13 _,I.r2.setOther ha.g23 _,?_,?_,(I.pg.off o2).less D⟩
 ·dsimp only at e
  split at e
  ·cases e
  ·exact(ha.tt b E).2.2.2.2 i e
 ·dsimp only at E
  split at E
  ·cases E
  ·have M:=ha.qq i b E;refine⟨M.1,M.2.1,M.2.2.1,M.2.2.2.1,M.2.2.2.2.1,fun j e=>?_⟩;dsimp only at e
   split at e
   ·cases e
   ·exact M.2.2.2.2.2 j e
 ·refine yD (I.r3.set k _) (fun j _=>?_);dsimp only;rw[J];by_cases e:j=k
  ·rw[yb e,yb e,yb e]
  ·rw[ya e,ya e,ya e]
 ·refine⟨hd.fr.less D,hd.fc,fun i hi=>(hd.rl i hi).less D,fun i hi hs=>(hd.tl i hi hs).less D,hd.ts.kept (zar.refl _ _) (fun b _ h=>D b h) (fun _ _=>rfl),fun i hi=>(hd.pr i hi).less D,fun i hi j T=>?_,fun i hi=>?_,fun w' Z=>hd.pt w' (Z.mono D),hd.pc⟩
  ·rw[J] at T |-;dsimp only;by_cases e:i=k
   ·rw[yb e] at T;rw[yb e,yb e];exact((hm j T).off o2).less D
   ·rw[ya e] at T;rw[ya e,ya e];exact(hd.qg i hi j T).less D
  ·generalize SX F.heap.size d { s with Q:=fun i=>if i=k then (a,c) else s.Q i,G:=fun i=>if i=k then G else s.G i,q:=fun i=>if i=k then none else s.q i }=Y at D |-;rw[J];dsimp only;by_cases e:i=k
   ·rw[yb e,yb e,yb e,yb e];exact⟨zfN _ _,.inl ⟨rfl,hc,hn,(hq.off o2).less D⟩⟩
   ·rw[ya e,ya e,ya e,ya e];exact(hd.qs i hi).kept (zar.refl _ _) (fun b _ h=>D b h) (fun _ _=>rfl)
theorem SW.noprog{J:W0}{d me:Nat}{W:Wl}{s:SD}{V:World}(I:SW J d me W s V){k:Nat}(F:k<W.fs.length) :
  SW J d me { W with ps:=W.ps.set k [] } { s with P:=fun i=>if i=k then (none,0) else s.P i } (V.setCell ⟨s.g2,k,none⟩ (.slice none 0 0)):=by
 have ha:=I.ap;have E:k<W.ps.length:=by rw[I.rt.lp];exact F
 have D:∀ i,prg { W with ps:=W.ps.set k [] } i=if i=k then [] else prg W i:=fun i=>zlO E
 have hd:=I.deep (z:=s.g2) (o:=k) (.slice none 0 0) (.inr (.inr (.inl rfl)));refine⟨I.bel.setCell ha.g2 _,I.rt.prog F (Nat.zero_le _),I.sf,⟨ha.d0,ha.g1,ha.g2,ha.g3,ha.d1,ha.d2,ha.d3,ha.g12,ha.g13,ha.g23,ha.tt,ha.qq⟩,(ys _ _ _ _ ha.d2).trans I.box,I.r1.setOther ha.g12 _,?_,I.r3.setOther (Ne.symm ha.g23) _,⟨hd.fr,hd.fc,hd.rl,hd.tl,hd.ts,fun i hi=>?_,hd.qg,hd.qs,hd.pt,hd.pc⟩,I.pg.off (zar.set V _ (.inr (.inr (.inr (.inl rfl)))))⟩
 ·refine yD (I.r2.set k _) (fun j _=>?_);dsimp only;rw[D];by_cases e:j=k
  ·rw[yb e,yb e,yb e];rfl
  ·rw[ya e,ya e,ya e]
 ·rw[D];dsimp only;by_cases e:i=k
  ·rw[yb e,yb e];exact fun w' _ j M=>absurd M (yw _)
  ·rw[ya e,ya e];exact hd.pr i hi
theorem zlh{X:Nat->Prop}{B c:Nat}{a:Option Addr}{l:List Int}{t:Option Nat}{V:World}(h:App X B 3 1 a l.length c (l.map (Value.int .i64)) t V):zal V a l:=fun i hi=>by
 obtain⟨h1,F⟩:=h.read
 cases a with
 | none=>have:=h1 rfl;omega
 | some E =>
  obtain⟨b,o,rfl⟩:=h.lit E rfl;have D:=F _ rfl i (.int .i64 (l.getD i 0)) (by rw[List.getElem?_map,List.getElem?_eq_getElem hi,zae l 0 hi];rfl);rw[Addr.add_lit] at D;exact⟨b,o,rfl,D⟩
theorem zrZ{X:Nat->Prop}{B c:Nat}{a:Option Addr}{q:List Ml}{G:Nat->Option Addr × Nat}{t:Option Nat}{V:World}(h:App X B 53 2 a q.length c (zcv q G) t V)(hg:∀ j,j<q.length->zaF V (G j).1 (ml q j).g):ziq V a q:=fun i hi=>by
 obtain⟨h1,D⟩:=h.read
 cases a with
 | none=>have:=h1 rfl;omega
 | some I =>
  obtain⟨b,o,rfl⟩:=h.lit I rfl;have E:=D _ rfl _ _ (zfv hi).1;have F:=D _ rfl _ _ (zfv hi).2;rw[Addr.add_lit] at E F;exact⟨b,o,_,_,rfl,E,F,hg i hi⟩
theorem zxh{X:Nat->Prop}{B e size n c:Nat}{a:Option Addr}{M:List Value}{t:Option Nat}{V:World}(h:App X B e size a n c M t V)(hn:n<=9223372036854775807):SlA a n c:=by
 rcases h.2 with ⟨_,D,E,_⟩ |⟨b,h1,D,E⟩
 ·exact⟨fun e=>by rw[D];exact E.1 e,by omega,by omega⟩
 ·subst D;rcases E.2 with ⟨F,_⟩ |⟨g,cap,I,F,_,_,h5,J,_⟩
  ·cases F
  ·cases F;exact⟨(fun e=>by cases e),h5,J⟩
abbrev SD.wa(s:SD)(n:Nat):WA:=⟨s.a0,some ⟨s.g1,0,none⟩,some ⟨s.g2,0,none⟩,some ⟨s.g3,0,none⟩,s.a4,s.c0,n,n,n,s.c4⟩
end Go.Proofs.YtcbcpomacdngmaaGreat
