/-
  x
-/
import Derived.Test.YtgjfmepbphfjoaaGreatQ23
namespace Go.Proofs.YtgjfmepbphfjoaaGreat
set_option maxRecDepth 100000
set_option maxHeartbeats 4000000
set_option linter.unusedVariables false
open Go.RowKit
def SlB(W:World)(b:Nat):Prop:=∀ j v,W.cell? ⟨b,j,none⟩=some v->∃ a n c,v=.slice a n c
def zfZ(b:Nat)(W w:World):Prop:=W.heap.size<=w.heap.size/\∀ k,k<W.heap.size->k≠b->w.heap[k]?=W.heap[k]?
theorem zfZ.cell{b k o:Nat}{W A:World}{v:Value}(h:zfZ b W A)(D:k≠b)(w:W.cell? ⟨k,o,none⟩=some v):A.cell? ⟨k,o,none⟩=some v:=by
 have:=h.2 k (ye _ _ w) D;unfold World.cell? at w |-;dsimp only at w |-;rw[this];exact w
theorem SlB.ne{W:World}{b k o:Nat}{v:Value}(h:SlB W b)(w:W.cell? ⟨k,o,none⟩=some v)(A:∀ a n c,v≠.slice a n c):k≠b:=fun e=>by
 subst e;obtain⟨a,n,c,e2⟩:=h _ _ w;exact A a n c e2
theorem zaj.offB{W w:World}{b:Nat}{a:Option Addr}{l:List Int}(h:zaj W a l)(hs:SlB W b)(F:zfZ b W w):zaj w a l:=fun i D=>by
 obtain⟨k,o,e,A⟩:=h i D;exact⟨k,o,e,F.cell (hs.ne A (fun _ _ _ h=>by cases h)) A⟩
theorem zam.offB{W w:World}{b:Nat}{a:Option Addr}{l:List (Int × Int)}(h:zam W a l)(hs:SlB W b)(D:zfZ b W w):zam w a l:=fun i I=>by
 obtain⟨k,o,e,h1,F⟩:=h i I;have A:=hs.ne h1 (fun _ _ _ h=>by cases h);exact⟨k,o,e,D.cell A h1,D.cell A F⟩
theorem zae.offB{W F:World}{b:Nat}{a:Option Addr}{S:List Nd}(h:zae W a S)(hs:SlB W b)(w:zfZ b W F):zae F a S:=fun i M=>by
 obtain⟨k,o,e,c0,c1,c2,c3,c4,⟨ka,kc,c5,D⟩,I,J⟩:=h i M;have A:=hs.ne c0 (fun _ _ _ h=>by cases h);exact⟨k,o,e,w.cell A c0,w.cell A c1,w.cell A c2,w.cell A c3,w.cell A c4,⟨ka,kc,w.cell A c5,D.offB hs w⟩,w.cell A I,w.cell A J⟩
theorem zaY.offB{W D:World}{b:Nat}{a:Option Addr}{G:List Cl}(h:zaY W a G)(hs:SlB W b)(A:zfZ b W D):zaY D a G:=fun i I=>by
 obtain⟨k,o,e,c0,ka,kc,c1,w⟩:=h i I;have F:=hs.ne c0 (fun _ _ _ h=>by cases h);exact⟨k,o,e,A.cell F c0,ka,kc,A.cell F c1,w.offB hs A⟩
theorem zaS.offB{W D:World}{b:Nat}{A:RA}{R:Rl}(h:zaS W A R)(hs:SlB W b)(w:zfZ b W D):zaS D A R:=⟨h.1.offB hs w,h.2.1.offB hs w,h.2.2.1.offB hs w,h.2.2.2.offB hs w⟩
theorem zfZ.set{W w:World}{b o:Nat}{v:Value}(h:zfZ b W w):zfZ b W (w.setCell ⟨b,o,none⟩ v):=⟨by simpa using h.1,fun k A hn=>(yo _ _ _ _ hn).trans (h.2 k A hn)⟩
theorem zfZ.refl(b:Nat)(W:World):zfZ b W W:=⟨yi _,fun _ _ _=>rfl⟩
theorem zaU{W w:World}{b:Nat}{o:Obj}(h:W.heap[b]?=some o)(A:Below W.heap.size W w):w.heap[b]?=some o:=(A.block b (zaC h)).trans h
theorem zol{W A:World}{b k:Nat}{o:Obj}(h:W.heap[k]?=some o)(D:zfZ b W A)(w:k≠b):A.heap[k]?=some o:=(D.2 k (zaC h) w).trans h
theorem znG(A:zps){R Q:Rl}{x:Ac}{E o:Int}(w:ziu R)(h:doF R x=⟨E,Q,o⟩)(a0 a1 a2 a3:Option Addr)(c0 c1 c2 c3:Nat)(W:World)(D:zaS W ⟨a0,a1,a2,a3,c0,c1,c2,c3⟩ R) :
  Calls Tryz.prog 9 #[.agg #[.slice a0 R.s.length c0,.slice a1 R.hs.length c1,.slice a2 R.i.length c2,.slice a3 R.t.length c3],.agg #[.int .i64 x.k,.int .i64 x.a,.int .i64 x.b,.int .i64 x.c,.int .i64 x.n]] W fun e w' => ∃ (b0 b1 b2 b3:Option Addr) (d0 d1 d2 d3:Nat),e=.returned (.tuple #[.agg #[.slice b0 Q.s.length d0,.slice b1 Q.hs.length d1,.slice b2 Q.i.length d2,.slice b3 Q.t.length d3],.int .i64 o,.int .i64 E])/\Below W.heap.size W w' /\ zaS w' ⟨b0,b1,b2,b3,d0,d1,d2,d3⟩ Q:=by
 refine(A ⟨a0,a1,a2,a3,c0,c1,c2,c3⟩ R x W w D).mono ?_;rintro e w' ⟨⟨b0,b1,b2,b3,d0,d1,d2,d3⟩,e1,F,hr⟩;rw[h] at e1 hr;exact⟨b0,b1,b2,b3,d0,d1,d2,d3,e1,F,hr⟩
theorem zpH{R:Rl}{x:Ac}{E:Int}(h:(doF R x).e=E):doF R x=⟨E,(doF R x).r,(doF R x).o⟩:=by
 rw[<- h]
theorem zqZ(A:zkI){R:Rl}{p E:Int}(h1:zje p=R)(w:zqk p=E)(W:World) :
  Calls Tryz.prog 11 #[.int .i64 p] W fun e w' => ∃ (b0 b1 b2 b3:Option Addr) (d0 d1 d2 d3:Nat),e=.returned (.tuple #[.agg #[.slice b0 R.s.length d0,.slice b1 R.hs.length d1,.slice b2 R.i.length d2,.slice b3 R.t.length d3],.int .i64 E])/\Below W.heap.size W w' /\ zaS w' ⟨b0,b1,b2,b3,d0,d1,d2,d3⟩ R:=by
 refine(A p W).mono ?_;rintro e w' ⟨⟨b0,b1,b2,b3,d0,d1,d2,d3⟩,e1,D,hr⟩;rw[h1] at e1 hr;rw[w] at e1;exact⟨b0,b1,b2,b3,d0,d1,d2,d3,e1,D,hr⟩
theorem zlA{W:World}{b t:Nat}{A v1 v2 D:Value}{f}(h:W.heap[b]?=some (.cells #[A,v1,v2,D] t f))(h0:∃ a n c,A=.slice a n c)(h1:∃ a n c,v1=.slice a n c)(F:∃ a n c,v2=.slice a n c)(I:∃ a n c,D=.slice a n c):SlB W b:=fun j v w=>by
 unfold World.cell? at w;dsimp only at w;rw[h] at w
 match j with
 | 0=>simp at w;rw[<- w];exact h0
 | 1=>simp at w;rw[<- w];exact h1
 | 2=>simp at w;rw[<- w];exact F
 | 3=>simp at w;rw[<- w];exact I
 | j+4=>simp at w
theorem zbB{W:World}{b t i:Nat}{X:Array Value}{v:Value}{f:Nat × Nat}(h:W.heap[b]?=some (.cells X t f)):(W.setCell ⟨b,i,none⟩ v).heap[b]?=some (.cells (X.setIfInBounds i v) t f):=by
 show (W.heap.modify b _)[b]?=_;rw[Array.getElem?_modify,yd rfl,h];rfl
theorem zbl{W:World}{b t:Nat}{F v1 v2 I u0 u1 u2 u3:Value}(h:W.heap[b]?=some (.cells #[F,v1,v2,I] t (0,0))):((((W.setCell ⟨b,0,none⟩ u0).setCell ⟨b,1,none⟩ u1).setCell ⟨b,2,none⟩ u2).setCell ⟨b,3,none⟩ u3).heap[b]?=some (.cells #[u0,u1,u2,u3] t (0,0)):=by
 have w:=zbB (i:=0) (v:=u0) h;have A:=zbB (i:=1) (v:=u1) w;have D:=zbB (i:=2) (v:=u2) A;exact zbB (i:=3) (v:=u3) D
theorem zbS(W:World)(t:Nat)(w v1 v2 A:Value):(W.alloc (.cells #[w,v1,v2,A] t)).heap[W.heap.size]?=some (.cells #[w,v1,v2,A] t (0,0)):=heap_alloc_new W _
theorem zaa{W:World}{b t:Nat}{w v1 v2 A:Value}(h:W.heap[b]?=some (.cells #[w,v1,v2,A] t (0,0))):W.cell? ⟨b,0,none⟩=some w/\W.cell? ⟨b,1,none⟩=some v1/\W.cell? ⟨b,2,none⟩=some v2/\W.cell? ⟨b,3,none⟩=some A/\(∀ o,W.frozen? ⟨b,o,none⟩=false)/\b<W.heap.size :=
 ⟨by simp[World.cell?,h],by simp[World.cell?,h],by simp[World.cell?,h],by simp[World.cell?,h],fun o=>by simp[World.frozen?,h],zaC h⟩
def H0o:Int:=(doF H0 X1).o
def H1o:Int:=(doF H1 X2).o
theorem zof(hN:zkI)(hD:zps):zkH:=by
 intro w;have D1:Hid (∀ W,Calls _ _ _ _ _):=fun W=>zqZ hN (R:=H0) rfl h_7 W;have D2:Hid _:=znG hD (zea h_0) (show doF H0 X1=⟨0,H1,H0o⟩ from zpH h_1);have D3:Hid _:=znG hD (R:=H1) (zkO _ _) (show doF H1 X2=⟨0,H2,H1o⟩ from zpH h_2);have D4:Hid _:=znG hD (R:=H2) (zkO _ _) (show doF H2 X3=⟨0,(doF H2 X3).r,7⟩ from by rw[<- h_5];exact zpH h_3);have D5:Hid _:=znG hD (R:=H2) (zkO _ _) (show doF H2 X4=⟨4,(doF H2 X4).r,(doF H2 X4).o⟩ from zpH h_4);have c8:Hid (H2.hs.length=16):=h_6;clear hN hD;generalize (doF H2 X3).r=Q3 at *;generalize (doF H2 X4).r=Q4 at *;generalize (doF H2 X4).o=o4 at *;generalize H0=Z at *;generalize H1=R1 at *;generalize H2=A at *;generalize H0o=o1 at *;generalize H1o=o2 at *
 go_enter Tryz.func6,Tryz.ntmps6
 go_wp2_with fail
 refine yf (D1.out _) ?_;rintro e F ⟨a0,a1,a2,a3,c0,c1,c2,c3,rfl,I,M⟩;have D:Hid (Below w.heap.size w F):=I;have b4:Hid (zaS F ⟨a0,a1,a2,a3,c0,c1,c2,c3⟩ Z):=M;clear I M D1
 go_wp2_with fail
 refine yf (D2.out a0 a1 a2 a3 c0 c1 c2 c3 _ (b4.out.below (zab _ _))) ?_;rintro e w2 ⟨b0,b1,b2,b3,d0,d1,d2,d3,rfl,I,M⟩;have a7:Hid (Below w.heap.size w w2):=D.out.trans (((zab F _).trans (I.mono (by simp))).mono D.out.size);have J:w2.heap[F.heap.size]?=some (.cells #[.slice a0 Z.s.length c0,.slice a1 Z.hs.length c1,.slice a2 Z.i.length c2,.slice a3 Z.t.length c3] 31 (0,0)):=(I.block _ (by simp)).trans (zbS _ _ _ _ _ _);have a5:Hid (w2.heap[F.heap.size]?=some (.cells #[.slice a0 Z.s.length c0,.slice a1 Z.hs.length c1,.slice a2 Z.i.length c2,.slice a3 Z.t.length c3] 31 (0,0))):=J;have b5:Hid (zaS w2 ⟨b0,b1,b2,b3,d0,d1,d2,d3⟩ R1):=M;obtain⟨l0,l1,l2,l3,fz,lt⟩:=zaa J;clear I M D2 J b4
 go_wp2_with fail
 have b9:Hid (SlB w2 F.heap.size):=zlA a5.out ⟨_,_,_,rfl⟩ ⟨_,_,_,rfl⟩ ⟨_,_,_,rfl⟩ ⟨_,_,_,rfl⟩;refine yf (D3.out b0 b1 b2 b3 d0 d1 d2 d3 _ (b5.out.offB b9.out (zfZ.refl _ _).set.set.set.set)) ?_;rintro e w3 ⟨U,e1,e2,e3,V,f1,f2,f3,rfl,I,M⟩;have c7:Hid (Below w.heap.size w w3):=((((a7.out.setCell D.out.size _).setCell D.out.size _).setCell D.out.size _).setCell D.out.size _).trans (I.mono (by simpa using a7.out.size));have J:w3.heap[F.heap.size]?=some (.cells #[.slice b0 R1.s.length d0,.slice b1 R1.hs.length d1,.slice b2 R1.i.length d2,.slice b3 R1.t.length d3] 31 (0,0)):=(I.block _ (by simpa using lt)).trans (zbl a5.out);have a6:Hid (w3.heap[F.heap.size]?=some (.cells #[.slice b0 R1.s.length d0,.slice b1 R1.hs.length d1,.slice b2 R1.i.length d2,.slice b3 R1.t.length d3] 31 (0,0))):=J;have b6:Hid (zaS w3 ⟨U,e1,e2,e3,V,f1,f2,f3⟩ A):=M;clear l0 l1 l2 l3 fz lt;obtain⟨l0,l1,l2,l3,fz,lt⟩:=zaa J;clear I M D3 J b5 a5 b9
 go_wp2_with fail
 have c6:Hid (SlB w3 F.heap.size):=zlA a6.out ⟨_,_,_,rfl⟩ ⟨_,_,_,rfl⟩ ⟨_,_,_,rfl⟩ ⟨_,_,_,rfl⟩;have T:Hid (zaS ((((w3.setCell ⟨F.heap.size,0,none⟩ (.slice U A.s.length V)).setCell ⟨F.heap.size,1,none⟩ (.slice e1 A.hs.length f1)).setCell ⟨F.heap.size,2,none⟩ (.slice e2 A.i.length f2)).setCell ⟨F.heap.size,3,none⟩ (.slice e3 A.t.length f3)) ⟨U,e1,e2,e3,V,f1,f2,f3⟩ A):=b6.out.offB c6.out (zfZ.refl _ _).set.set.set.set;have a4:Hid _:=zbl (u0:=.slice U A.s.length V) (u1:=.slice e1 A.hs.length f1) (u2:=.slice e2 A.i.length f2) (u3:=.slice e3 A.t.length f3) a6.out;have O:Hid (Below w.heap.size w ((((w3.setCell ⟨F.heap.size,0,none⟩ (.slice U A.s.length V)).setCell ⟨F.heap.size,1,none⟩ (.slice e1 A.hs.length f1)).setCell ⟨F.heap.size,2,none⟩ (.slice e2 A.i.length f2)).setCell ⟨F.heap.size,3,none⟩ (.slice e3 A.t.length f3))):=(((c7.out.setCell D.out.size _).setCell D.out.size _).setCell D.out.size _).setCell D.out.size _;refine yf (D4.out U e1 e2 e3 V f1 f2 f3 _ T.out) ?_;rintro e w4 ⟨g0,g1,g2,g3,h0,h1,h2,h3,rfl,I,M⟩;have a8:Hid (Below w.heap.size w w4):=O.out.trans (I.mono O.out.size);have J:w4.heap[F.heap.size]?=some (.cells #[.slice U A.s.length V,.slice e1 A.hs.length f1,.slice e2 A.i.length f2,.slice e3 A.t.length f3] 31 (0,0)):=(I.block _ (by simpa using lt)).trans a4.out;have b8:Hid (w4.heap[F.heap.size]?=some (.cells #[.slice U A.s.length V,.slice e1 A.hs.length f1,.slice e2 A.i.length f2,.slice e3 A.t.length f3] 31 (0,0))):=J
 have b7:Hid (zaS w4 ⟨U,e1,e2,e3,V,f1,f2,f3⟩ A):=T.out.below I;clear l0 l1 l2 l3 fz lt;obtain⟨l0,l1,l2,l3,fz,lt⟩:=zaa J;clear I M D4 J b6 T a6 a4 c6 O
 go_wp2_with fail
 refine yf (D5.out U e1 e2 e3 V f1 f2 f3 _ (b7.out.below (zab _ _))) ?_;rintro e w5 ⟨i0,i1,i2,i3,j0,j1,j2,j3,rfl,I,M⟩;have a9:Hid (Below w.heap.size w w5):=a8.out.trans (((zab w4 _).trans (I.mono (by simp))).mono a8.out.size);have J:w5.heap[F.heap.size]?=some (.cells #[.slice U A.s.length V,.slice e1 A.hs.length f1,.slice e2 A.i.length f2,.slice e3 A.t.length f3] 31 (0,0)):=(((zab w4 _).trans (I.mono (by simp))).block _ lt).trans b8.out;clear l0 l1 l2 l3 fz lt;obtain⟨l0,l1,l2,l3,fz,lt⟩:=zaa J;clear I M D5 J b7 b8;rw[c8.out] at l1
 go_wp2_with fail
 go_ret;exact⟨rfl,a9.out.trans ((zab w5 _).mono a9.out.size)⟩
def rS(E:Int)(T:List Nd):List Nd:=if E=0 then T else []
def rH(E:Int)(h:Int × Int):Int × Int:=if E=0 then h else (0,0)
theorem zdv{T:List Nd}:rS 0 T=T:=rfl
theorem zcX{E:Int}{T:List Nd}(h:E≠0):rS E T=[]:=ya h
theorem zjj{E:Int}{T:Int × Int}(h:E≠0):rH E T=(0,0):=ya h
theorem zbL(W:World):zae W none []:=fun _ w=>absurd w (yr _)
abbrev znl(f:Nat)(S T:List Nd)(more:Array Value)(E:Int):Prop:=∀ (a:Option Addr) (c:Nat) W,zae W a S ->
 Calls Tryz.prog f (#[.agg #[.slice a S.length c]] ++ more) W fun e w' => ∃ w A,e=.returned (.tuple #[.agg #[.slice w T.length A],.int .i64 E])/\Below W.heap.size W w' /\ zae w' w T
abbrev zjJ(f:Nat)(S T:List Nd)(more:Array Value)(E:Int):Prop:=∀ (a:Option Addr) (c:Nat) W,zae W a S ->
 Calls Tryz.prog f (#[.agg #[.slice a S.length c]] ++ more) W fun e w' => ∃ w A,e=.returned (.tuple #[.agg #[.slice w T.length A],.int .i64 E])/\Below W.heap.size W w' /\ St (fun b=>b<W.heap.size) (fun V=>zae V w T) w'
theorem zrX{w' : World}{a:Option Addr}{T:List Nd}{B g:Nat}(hg:B<=g)(hn:∀ w3:World,(∀ b,g<=b->w3.heap[b]?=w'.heap[b]?)->zae w3 a T):St (fun b=>b<B) (fun V=>zae V a T) w' := fun V A=>by
 have e:∀ b,b<w'.heap.size->(V.heap.extract 0 w'.heap.size)[b]?=V.heap[b]?:=fun b D=>by
  have:=A.size;simp[Array.getElem?_extract];omega
 have h:=hn { V with heap:=V.heap.extract 0 w'.heap.size } (fun b D=>by
  show (V.heap.extract 0 w'.heap.size)[b]?=w'.heap[b]?;by_cases h1:b<w'.heap.size
  ·rw[e b h1];exact A.block b h1 (by show ¬ b<B;omega)
  ·rw[Array.getElem?_eq_none (by simp;omega),Array.getElem?_eq_none (by omega)])
 have w:(V.heap.extract 0 w'.heap.size).size=w'.heap.size:=by have:=A.size;simp;omega
 exact h.below ⟨rfl,rfl,rfl,by show (V.heap.extract 0 w'.heap.size).size<=_;rw[w];exact A.size,fun b D=>(e b (by rw[<- w];exact D)).symm⟩
abbrev hdV(h:Int × Int):Value:=.agg #[.int .i64 h.1,.int .i64 h.2]
def zrh(f:Nat):Prop:=∀ (S:List Nd) (h:Int × Int),WF S->znl f S (rS (zgX S h.1 h.2) (S.set h.1.toNat (zcg (nd S h.1.toNat)))) #[hdV h] (zgX S h.1 h.2)
def znk(f:Nat):Prop:=∀ (S:List Nd) (h:Int × Int),WF S->znl f S (rS (zpr S h.1 h.2) (leaveG S h.1.toNat)) #[hdV h] (zpr S h.1 h.2)
def znh(f:Nat):Prop:=∀ (S:List Nd) (h g:Int × Int) (hs:List (Int × Int)) (A:Option Addr) (F:Nat),WF S->hs.length<=1->∀ (a:Option Addr) (c:Nat) W,zae W a S->zam W A hs ->
 Calls Tryz.prog f #[.agg #[.slice a S.length c],hdV h,hdV g,.slice A hs.length F] W fun e w' => ∃ w D,e=.returned (.tuple #[.agg #[.slice w (rS (zek S h.1 h.2 g.1 g.2 hs) (zgN S h.1 g.1 hs)).length D],.int .i64 (zek S h.1 h.2 g.1 g.2 hs)])/\Below W.heap.size W w' /\ zae w' w (rS (zek S h.1 h.2 g.1 g.2 hs) (zgN S h.1 g.1 hs))
def zpt(f:Nat):Prop:=∀ (S:List Nd) (h:Int × Int),WF S->zjJ f S (rS (zgX S h.1 h.2) (S.set h.1.toNat (zcg (nd S h.1.toNat)))) #[hdV h] (zgX S h.1 h.2)
def zlG(f:Nat):Prop:=∀ (S:List Nd) (h:Int × Int),WF S->zjJ f S (rS (zpr S h.1 h.2) (leaveG S h.1.toNat)) #[hdV h] (zpr S h.1 h.2)
def zlD(f:Nat):Prop:=∀ (S:List Nd) (h g:Int × Int) (hs:List (Int × Int)) (A:Option Addr) (F:Nat),WF S->hs.length<=1->∀ (a:Option Addr) (c:Nat) W,zae W a S->zam W A hs ->
 Calls Tryz.prog f #[.agg #[.slice a S.length c],hdV h,hdV g,.slice A hs.length F] W fun e w' => ∃ w D,e=.returned (.tuple #[.agg #[.slice w (rS (zek S h.1 h.2 g.1 g.2 hs) (zgN S h.1 g.1 hs)).length D],.int .i64 (zek S h.1 h.2 g.1 g.2 hs)])/\Below W.heap.size W w' /\ St (fun b=>b<W.heap.size) (fun V=>zae V w (rS (zek S h.1 h.2 g.1 g.2 hs) (zgN S h.1 g.1 hs))) w'
def zkG(f:Nat):Prop:=∀ (S:List Nd) (h:Int × Int) (t m:Int) (w:Option Addr) (F:Nat),WF S->∀ (a:Option Addr) (c:Nat) W,zae W a S->zaP W w [⟨t,m,false⟩] ->
 Calls Tryz.prog f #[.agg #[.slice a S.length c],hdV h,.slice w 1 F] W fun e w' => ∃ A D n,e=.returned (.tuple #[.slice A n D,.int .i64 (znz S h.1 h.2 [⟨t,m,false⟩])])/\Below W.heap.size W w' /\ n=if znz S h.1 h.2 [⟨t,m,false⟩]=0 then (zcQ S h.1.toNat [⟨t,m,false⟩]).length else 0
def zne(f:Nat):Prop:=∀ (S:List Nd) (h:Int × Int),WF S->∀ (a:Option Addr) (c:Nat) W,zae W a S ->
 Calls Tryz.prog f #[.agg #[.slice a S.length c],hdV h] W fun e w' => ∃ w A n,e=.returned (.tuple #[.slice w n A,.int .i64 (zas S h.1 h.2)])/\Below W.heap.size W w' /\ n=if zas S h.1 h.2=0 then (zeg S h.1.toNat).length else 0
theorem zaZ(S:List Nd)(p u:Int):zar S [(p,u)]=zas S p u:=by
 unfold zar zas zdR zdR;by_cases h:zco S p u=0
 ·simp[h]
 ·simp[h]
theorem zlp{S:List Nd}(wf:WF S){ch:Nat}(hch:ch<S.length):(nd S ch).p = -1\/∃ w:Nat,w<S.length/\w≠ch/\(nd S ch).p=w:=by
 by_cases e:(nd S ch).p = -1
 ·exact Or.inl e
 ·obtain⟨w,A,D,F,_⟩:=wf.parent_place hch e;exact Or.inr ⟨w,D,F,A⟩
theorem zbi{S:List Nd}(wf:WF S):∀ i,i<S.length->(nd S i).ks.length<=1000:=fun i w=>by have:=wf.kids_small w;omega
theorem zpM:zpt 57:=fun S h wf a c W D=>by
 obtain⟨P,U⟩:=h;dsimp only[hdV];have I:S.length<=9223372036854775807:=by have:=wf.small;omega
 unfold zgX;by_cases w:zas S P U=0
 ·rw[yd w];obtain⟨_,k,e,F,M,J⟩:=zbz w;subst e;rw[yg];by_cases hl:zdS S k
  ·rw[yd hl,zdv];refine(zrA a c S k U W wf.small (zbi wf) D F w hl).mono (fun e w' ⟨g,e1,A,hg,hn⟩=>⟨some ⟨g,0,none⟩,S.length,?_,A,zrX hg hn⟩);rw[e1,List.length_set]
  ·rw[ya hl,zcX (by decide)];exact(znS a c S k U W I wf.big D F w (by have:=zbi wf k F;omega) hl).mono (fun e w' ⟨e1,A⟩=>⟨none,0,e1,A,fun V _=>zbL V⟩)
 ·rw[ya w,zcX w];exact(zpN a c S P U _ W I wf.big D rfl w).mono (fun e w' ⟨e1,A⟩=>⟨none,0,e1,A,fun V _=>zbL V⟩)
theorem zmK:zlG 58:=fun S h wf a c W F=>by
 obtain⟨P,U⟩:=h;dsimp only[hdV];have O:S.length<=9223372036854775807:=by have:=wf.small;omega
 unfold zpr;by_cases w:zas S P U=0
 ·rw[yd w];obtain⟨_,k,e,I,hu,a4⟩:=zbz w;subst e;rw[yg];have T:zar S [((k:Int),U)]=0:=(zaZ _ _ _).trans w;rcases zlp wf I with Z |⟨p0,J,M,D⟩
  ·rw[yd Z,zcX (by decide)];exact(zku a c S k U W O wf.big F T I Z).mono (fun e w' ⟨e1,A⟩=>⟨none,0,e1,A,fun V _=>zbL V⟩)
  ·have hG:leaveG S k=zbu S p0 k:=by unfold leaveG;rw[ya (by omega),D,yg]
   rw[ya (by omega),zdv,hG];refine(zoZ a c S k p0 U W wf.small wf.big F T I J M D (zbi wf)).mono (fun e w' ⟨g,e1,A,hg,hn⟩=>⟨some ⟨g,0,none⟩,S.length,?_,A,zrX hg hn⟩);rw[e1,zaR]
 ·rw[ya w,zcX w];exact(zmL a c S P U _ W O wf.big F (zaZ _ _ _) w).mono (fun e w' ⟨e1,A⟩=>⟨none,0,e1,A,fun V _=>zbL V⟩)
theorem zqP{S:List Nd}{P I C A:Int}{hs:List (Int × Int)}(wf:WF S)(hm:hs.length<=1):zng S (rS (zek S P I C A hs) (zgN S P C hs)) P C A hs (zar S ((P,I) ::(C,A) :: hs)) (zek S P I C A hs):=by
 by_cases D:zar S ((P,I) ::(C,A) :: hs)=0
 ·obtain⟨_,hx⟩:=zkD D;obtain⟨U,e1,hpa,hpu,a5⟩:=hx (P,I) (by simp);obtain⟨ch,e2,hch,hcu,V⟩:=hx (C,A) (by simp);dsimp only at e1 e2 a5 V;subst e1;subst e2;have hK:=zbi wf;refine .inr ⟨U,ch,rfl,rfl,D,wf.small,hpa,hch,fun O=>?_,fun O=>⟨fun h hh=>?_,?_⟩⟩
  ·have e:zek S U I ch A hs=6:=by unfold zek;rw[yd D,yg,yg,ya (by rw[O];decide)]
   rw[e];exact⟨rfl,zcX (by decide)⟩
  ·obtain⟨q,e,hq,_⟩:=hx h (by simp[hh]);exact⟨q,e,hq⟩
  ·have pt:znj S U ch:=⟨wf,hpa,hch,hpu,hcu,O⟩;obtain⟨f1,f2,f3⟩:=zdp O;have hl:=zaF S ch;have T:=zlp wf hch;unfold zek zgN;rw[yd D];simp only[yg];rw[yd O]
   match hs,hm,D,hx with
   | [],_,D,hx =>
    exact⟨fun⟨h,hh,_⟩=>(by cases hh),fun _=>⟨rfl,hK,by rw[zdv,zaE,hl],.inr ⟨by simp,f2,T,(nd (leaveG S ch) U).ks.length,rfl,by omega,zdv⟩⟩⟩
   | [(Q,qu)],_,D,hx =>
    obtain⟨q,e3,hq,a9,a6⟩:=hx (Q,qu) (by simp);dsimp only at e3 a6;subst e3;dsimp only;rw[yg]
    have F:∀ h ∈ [((q:Int),qu)],(nd S h.1.toNat).p=(nd S q).p:=fun h hh=>by
     have:h=((q:Int),qu):=by simpa using hh
     subst this;rw[yg]
    by_cases w:(nd S q).p=U
    ·rw[yd w,zdv];refine⟨fun⟨h,hh,a4⟩=>absurd ((F h hh).trans w) a4,fun _=>?_⟩;by_cases J:q=ch
     ·subst J;have Z:A=qu:=by omega
      subst Z;rw[yd rfl];exact⟨rfl,hK,rfl,.inl ⟨List.mem_singleton.2 rfl,rfl⟩⟩
     ·rw[ya (by omega)];obtain⟨at', M,a7,a8⟩:=pt.ahead hq w J;rw[M,yg];exact⟨rfl,hK,by rw[zaE,hl],.inr ⟨fun e=>J (by have:=congrArg Prod.fst (List.mem_singleton.1 e);simp at this;omega),f2,T,at', M,by omega,rfl⟩⟩
    ·rw[ya w];exact⟨fun _=>⟨rfl,zcX (by decide)⟩,fun h=>absurd ((F _ (List.mem_singleton.2 rfl)).symm.trans (h _ (List.mem_singleton.2 rfl))) w⟩
   | _ :: _ :: _,h,_,_=>exact absurd h (by simp)
 ·have e:zek S P I C A hs=zar S ((P,I) ::(C,A) :: hs):=by unfold zek;rw[ya D]
  exact .inl ⟨D,e,by rw[e,zcX D]⟩
theorem zhm:zlD 112:=fun S h g hs J O wf w a c W I F =>
 (zmh a c S h.1 g.1 h.2 g.2 J O hs _ _ _ W (by have:=wf.small;omega) wf.big I F w rfl (zqP wf w)).mono (fun e w' ⟨A,D,e1,M,hn⟩=>⟨A,D,e1,M,zrX (yi _) hn⟩)
theorem znB:zkG 109:=fun S h t m J M wf a c W D F=>by
 obtain⟨P,U⟩:=h;dsimp only[hdV];have V:S.length<=9223372036854775807:=by have:=wf.small;omega
 unfold znz;by_cases w:zas S P U=0
 ·rw[yd w];obtain⟨_,k,e,I,hu,Z⟩:=zbz w;subst e;rw[yg];by_cases hq:zcA [⟨t,m,false⟩]=0
  ·rw[hq,yd rfl];exact(zqr a c S k U J M [⟨t,m,false⟩] W wf I hu ((zaZ _ _ _).trans w) D F hq).mono (fun e w' ⟨O,T,e1,A,hi,_⟩=>⟨O,T,_,e1,A,rfl⟩)
  ·rw[ya hq];exact(zoJ a c S k U _ J M [⟨t,m,false⟩] W wf I ((zaZ _ _ _).trans w) D (by simp) F rfl hq).mono (fun e w' ⟨e1,A⟩=>⟨none,0,0,e1,A,rfl⟩)
 ·rw[ya w,ya w];exact(zoK a c S P U _ _ W V wf.big D (zaZ _ _ _) w).mono (fun e w' ⟨e1,A⟩=>⟨none,0,0,e1,A,rfl⟩)
theorem zpK:zne 110:=fun S h wf a c W D=>by
 obtain⟨P,U⟩:=h;dsimp only[hdV];have F:S.length<=9223372036854775807:=by have:=wf.small;omega
 by_cases w:zas S P U=0
 ·obtain⟨_,k,e,I,V,J⟩:=zbz w;subst e;rw[yg,w,yd rfl];exact(zrz a c S k U W wf D I w).mono (fun e w' ⟨M,O,e1,A,T⟩=>⟨M,O,_,e1,A,rfl⟩)
 ·rw[ya w];exact(zpL a c S P U _ W F wf.big D rfl w).mono (fun e w' ⟨e1,A⟩=>⟨none,0,0,e1,A,rfl⟩)
end Go.Proofs.YtgjfmepbphfjoaaGreat
