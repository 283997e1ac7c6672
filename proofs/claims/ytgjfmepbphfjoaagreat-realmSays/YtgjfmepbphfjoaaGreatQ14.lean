/-
  x
-/
import Derived.Test.YtgjfmepbphfjoaaGreatQ13
namespace Go.Proofs.YtgjfmepbphfjoaaGreat
set_option maxRecDepth 100000
set_option maxHeartbeats 4000000
set_option linter.unusedVariables false
open Go.RowKit
theorem zgP(W:World)(T D O gs N:Nat)(near:Bool)(st:(Nat->Bool) × List Int)(j:Nat)(J:World)(hj:j<N)(hN:N<=1000)(h:zhD W D gs N st J)
  (b9:T<W.heap.size) (b7:D<W.heap.size) (c6:gs<W.heap.size) (b8:O<W.heap.size) (n1:T≠D) (n2:T≠gs) (n3:O≠D) (n4:O≠gs) (n5:D≠gs)
  (cs:W.cell? ⟨T,0,none⟩=some (.slice (some ⟨gs,0,none⟩) N N)) (cn:W.cell? ⟨O,0,none⟩=some (.bool near)) :
  Calls Tryz.prog 147 #[.int .i64 (j:Int),.pointer (some ⟨T,0,none⟩),.pointer (some ⟨D,0,none⟩),.pointer (some ⟨O,0,none⟩)] J fun e w2=>e=.returned (.bool (zbo near st j).2)/\zhD W D gs N (zbo near st j).1 w2/\Off (fun k=>k=D\/k=gs\/W.heap.size<=k) J w2/\∀ (k:Nat) x t,J.heap[k]?=some (.cells #[x] t (0,0))->t≠29->t≠4->t≠3->w2.heap[k]?=J.heap[k]?:=by
 obtain⟨i0,c7,c8,c9,d6⟩:=info_parts info3;have e9:(j:Int)<(N:Int):=by omega
 have f6:=h.small;have HI:Hid (zhD W D gs N st J):=h;have M:Hid (∀ v,J.heap[D]?=some (.cells #[v] 29 (0,0))->J.ownsRow W.heap.size 3 1 v st.2.length (st.2.map (Value.int .i64))->∀ v' w2 o1,st.1 j=false->w2.ownsRow W.heap.size 3 1 v' (st.2.length+1) (st.2.map (Value.int .i64)++[.int .i64 (j:Int)])->((J.setCell ⟨gs,j,none⟩ (.bool true)).alloc o1).grownBy w2 v.ownBlock->_):=fun v V w v' w2 o1 hs A hg=>zhD.step h b7 c6 n5 hj hs V o1 w A hg;obtain⟨hO,hR,_,v,V,w⟩:=h;have f7:=hO.size;have x1:=(hO.cell (p:=⟨T,0,none⟩) b9 (by show ¬ (T=D\/T=gs);omega)).trans cs;have x2:=hR.cell hj;have f2:=hR.frozen j;have e8:=hR.lt;have a6:Hid (∀ a4 w2,zhD W D gs N a4 w2->w2.cell? ⟨O,0,none⟩=some (.bool near)):=fun a4 w2 h2=>(h2.1.cell (p:=⟨O,0,none⟩) b8 (by show ¬ (O=D\/O=gs);omega)).trans cn;have HC:Hid _:=V;have HO:Hid _:=w;have cb:=zbr V;have e7:=ye _ _ cb;have f0:=ye _ _ x1
 cases hs:st.1 j with
 | true =>
  rw[zdg hs];rw[hs] at x2;clear hO hR w V M
  go_enter Tryz.func147,Tryz.ntmps147
  go_wp2
  go_ret;exact⟨rfl,HI.out,Off.refl _ _,fun _ _ _ _ _ _ _=>rfl⟩
 | false =>
  rw[zdC hs];rw[hs] at x2;have b6:Hid _:=M.out v V w;have HS:Hid _:=hs;have d7:(J.setCell ⟨gs,j,none⟩ (.bool true)).cell? ⟨D,0,none⟩=some v:=(World.cell?_setCell_other _ _ _ _ (by intro e;exact n5 (by simpa using (congrArg Addr.block e).symm))).trans cb
  have a7:Hid ((J.setCell ⟨gs,j,none⟩ (.bool true)).ownsRow W.heap.size 3 1 v st.2.length (st.2.map (Value.int .i64))):=w.kept (grownBy_setCell J ⟨gs,j,none⟩ (.bool true)) (by
   cases hv:v.ownBlock with
   | none=>exact Or.inl rfl
   | some k=>right;intro e;have:=(w.lt k hv).1;simp at e;omega)
  have b5:Hid (∀ v' w2 o1,((J.setCell ⟨gs,j,none⟩ (.bool true)).alloc o1).grownBy w2 v.ownBlock->Off (fun k=>k=D\/k=gs\/W.heap.size<=k) J (w2.setCell ⟨D,0,none⟩ v')):=fun v' w2 o1 hg=>⟨hg.os,hg.tape,hg.output,by have:=hg.size;simp at this |-;omega,fun k hk hx=>by
   rw[yo _ _ _ _ (by show k≠D;exact fun e=>hx (Or.inl e)),hg.block k (by simp;omega) (fun e=>by have:=(w.lt k e.symm).1;exact hx (Or.inr (Or.inr this))),Below.heap_alloc _ _ _ (by simp;omega),yo _ _ _ _ (by show k≠gs;exact fun e=>hx (Or.inr (Or.inl e)))]⟩
  clear hO hR w V M hs cb HO;generalize ((fun i=>if i=j then true else st.1 i,st.2++[(j:Int)]):(Nat->Bool) × List Int)=a4 at *
  go_enter Tryz.func147,Tryz.ntmps147
  go_wp2_with (at_builtin;refine wpList_append_own _ rfl _ _ 29 rfl W.heap.size 3 i0 (.int .i64 0) 1 8 Tryz.underlying29 c7 c8 c9 d6 rfl (by decide) _ _ _ rfl (a7.out.alloc _) ⟨J.heap.size,0,none⟩ 1 1 [.int .i64 (j:Int)] rfl rfl ?c1 ?c2 ?c3 ?c4 ?c5 ?_)
  case c2=>rfl
  case c3=>unfold maxLen;omega
  case c4=>omega
  case c5=>omega
  intro v' w2 A I _
  obtain⟨g', F,rfl⟩:∃ g' F,v' = .slice (some ⟨g', 0,none⟩) (st.2.length+1) F:=by
   rcases A.2 with ⟨_,h⟩ |⟨g', F,e0,h,_⟩
   ·omega
   ·exact⟨g', F,h⟩
  obtain⟨Z,a8,U⟩:=b6.out _ _ _ HS.out A I;have a5:Hid _:=b5.out (.slice (some ⟨g', 0,none⟩) (st.2.length+1) F) _ _ I;have a9:Hid _:=U;have b4:Hid _:=a8;have d8:=zbr Z;have e6:=fun o=>zbD (o:=o) Z;have d9:=a6.out _ _ U;clear A I U a8 Z
  go_wp2
  go_ret;exact⟨rfl,a9.out,a5.out,b4.out⟩
theorem zmz(x:Nd)(k:Value)(w:World) :
  Calls Tryz.prog 146 #[.agg #[.bool x.u,.int .i64 x.n,.int .i64 x.t,.int .i64 x.m,.int .i64 x.p,k,.int .i64 x.h,.bool x.c]] w fun e w' => e=.returned (.int .i64 x.p)/\Below w.heap.size w w' := by
 go_enter Tryz.func146,Tryz.ntmps146
 go_wp2
 go_ret;exact⟨rfl,(yj _ _).alloc (yi _) _⟩
theorem zjT(I W:World)(a:Option Addr)(c:Nat)(S:List Nd)(near:Bool)(F A D gs:Nat)(hN:S.length<=24)(hS:zae I a S)(hW:Below I.heap.size I W)(h1:I.heap.size<=A)(h2:I.heap.size<=gs)
  (V:F<W.heap.size) (T:A<W.heap.size) (Z:gs<W.heap.size) (U:D<W.heap.size) (n1:F≠A) (n2:F≠gs) (n3:D≠A) (n4:D≠gs) (n5:A≠gs)
  (cs:W.cell? ⟨F,0,none⟩=some (.slice (some ⟨gs,0,none⟩) S.length S.length)) (cn:W.cell? ⟨D,0,none⟩=some (.bool near)) (st:(Nat->Bool) × List Int) (place:Int) (w:World) (h:zhD W A gs S.length st w) :
  Calls Tryz.prog 119 #[.agg #[.slice a S.length c],.int .i64 place,.func (.func 146) #[] #[],.func (.func 147) #[] #[.pointer (some ⟨F,0,none⟩),.pointer (some ⟨A,0,none⟩),.pointer (some ⟨D,0,none⟩)]] w fun e w' => e=.returned (.tuple #[])/\zhD W A gs S.length (zfb S near st place) w' := by
 refine(ziA a c S w place 146 147 #[.pointer (some ⟨F,0,none⟩),.pointer (some ⟨A,0,none⟩),.pointer (some ⟨D,0,none⟩)] Nd.p (zbo near) (zhD W A gs S.length) (fun k=>k=A\/k=gs\/W.heap.size<=k) st (by omega)
  (fun st M h=>hS.below (hW.trans (h.1.below (B:=I.heap.size) hW.size (fun k J=>by rcases J with J|J <;> omega))))
  (fun st M w2 h hb=>h.below hb)
  (enters_of Tryz.func146 (by kernel_rfl) rfl) (enters_of Tryz.func147 (by kernel_rfl) rfl)
  (fun x k M=>zmz x k M)
  (fun st x M h _ hx=>?_) h).mono ?_
 ·have hq:0<=x/\x<=(S.length:Int)-1:=of_decide_eq_true hx;obtain⟨j,rfl⟩:∃ j:Nat,x=(j:Int):=⟨x.toNat,by omega⟩;refine(zgP W F A D gs S.length near st j M (by omega) (by omega) h V T Z U n1 n2 n3 n4 n5 cs cn).mono ?_;rintro e w2 ⟨rfl,O,g2,g3⟩;exact⟨rfl,O,g2,fun k J=>g3 k _ _ J (by decide) (by decide) (by decide)⟩
 ·rintro e w' ⟨rfl,O,_⟩;exact⟨rfl,O⟩
theorem zlR(w:World)(o1 A o3 D F:Obj):Below w.heap.size w (((((w.alloc o1).alloc A).alloc o3).alloc D).alloc F):=(((zal w o1 A o3).alloc (by simp;omega) _).alloc (by simp;omega) _)
theorem zns(a:Option Addr)(c:Nat)(S:List Nd)(pa:Option Addr)(pc:Nat)(places:List Int)(near:Bool)(w:World)(hN:S.length<=24)(hS:zae w a S)(hL:places.length<=1000000)(hP:zaj w pa places) :
  Calls Tryz.prog 141 #[.agg #[.slice a S.length c],.slice pa places.length pc,.bool near] w fun e w' => ∃ v,e=.returned v/\Below w.heap.size w w' /\ w'.ownsRow w.heap.size 3 1 v (zcC S near places).length ((zcC S near places).map (Value.int .i64))/\(zcC S near places).length<=S.length:=by
 have b8:=ziY S.length hN;have HS:Hid (zae w a S):=hS;have HP:Hid (zaj w pa places):=hP;have HT:Hid (∀ k,k<places.length->zdf S near (places.take (k+1))=zfb S near (zdf S near (places.take k)) (places.getD k 0)):=fun k I=>zix S near places k I;have CL:Hid (∀ W bs bf bn gs,_):=fun W bs bf bn gs=>fun(A:Below w.heap.size w W) h1 h2 a9 a7 b4 a8 n1 n2 n3 n4 n5 Z V st place W1 h=>zjT w W a c S near bs bf bn gs hN hS A h1 h2 a9 a7 b4 a8 n1 n2 n3 n4 n5 Z V st place W1 h;have H0:Hid (zdf S near (places.take 0)=(fun _=>false,[])):=rfl;have HE:Hid (zcC S near places=(zdf S near (places.take places.length)).2):=by show _=_;rw[List.take_length];rfl
 generalize zcC S near places=R at *;clear hS hP;generalize hn:S.length=n at *;have HN:Hid _:=hn;clear hn;generalize hl:places.length=L at *;have HL:Hid _:=hl;clear hl
 go_enter Tryz.func141,Tryz.ntmps141
 go_wp2
 obtain⟨W,A⟩:∃ W,W=(((((w.alloc (.cells #[.slice a n c] 24)).alloc (.cells #[.bool near] 4)).alloc (.cells (madeCells #[.bool false] n) 4)).alloc (.cells #[.slice (some ⟨w.heap.size+1+1,0,none⟩) n n] 139)).alloc (.cells #[.slice none 0 0] 29)):=⟨_,rfl⟩;rw[<- A];have hb:Below w.heap.size w W:=by rw[A];exact zlR _ _ _ _ _ _
 have hz:W.heap.size=w.heap.size+1+1+1+1+1:=by rw[A];simp
 have c0:W.cell? ⟨w.heap.size,0,none⟩=some (.slice a n c):=by rw[A];go_simp
 have V:W.cell? ⟨w.heap.size+1,0,none⟩=some (.bool near):=by rw[A];go_simp
 have Z:W.cell? ⟨w.heap.size+1+1+1,0,none⟩=some (.slice (some ⟨w.heap.size+1+1,0,none⟩) n n):=by rw[A];go_simp
 have M:zhD W (w.heap.size+1+1+1+1) (w.heap.size+1+1) n (fun _=>false,[]) W:=by
  refine⟨Off.refl _ _,?_,⟨by simp,fun x hx=>by cases hx⟩,.slice none 0 0,?_,World.ownsRow_nil _ _ _ _⟩
  ·rw[A];have h0:=World.rowIs_made ((w.alloc (.cells #[.slice a n c] 24)).alloc (.cells #[.bool near] 4)) (.bool false) n 4;have h1:Below (w.heap.size+1+1+1) (((w.alloc (.cells #[.slice a n c] 24)).alloc (.cells #[.bool near] 4)).alloc (.cells (madeCells #[.bool false] n) 4)) (((((w.alloc (.cells #[.slice a n c] 24)).alloc (.cells #[.bool near] 4)).alloc (.cells (madeCells #[.bool false] n) 4)).alloc (.cells #[.slice (some ⟨w.heap.size+1+1,0,none⟩) n n] 139)).alloc (.cells #[.slice none 0 0] 29)):=((yj _ _).alloc (by simp) _).alloc (by first|(simp;done)|(simp;omega)) _;simp only[yk] at h0;exact h0.of_block (h1.block _ (by omega))
  ·rw[A];have:=heap_alloc_new ((((w.alloc (.cells #[.slice a n c] 24)).alloc (.cells #[.bool near] 4)).alloc (.cells (madeCells #[.bool false] n) 4)).alloc (.cells #[.slice (some ⟨w.heap.size+1+1,0,none⟩) n n] 139)) (.cells #[.slice none 0 0] 29);simpa using this
 have a6:Hid _:=M;have J:Hid (Below w.heap.size w W):=hb;have a4:Hid _:=CL.out W (w.heap.size+1+1+1) (w.heap.size+1+1+1+1) (w.heap.size+1) (w.heap.size+1+1) hb (by omega) (by omega) (by omega) (by omega) (by omega) (by omega) (by omega) (by omega) (by omega) (by omega) (by omega) Z V;have C0:Hid (∀ st T,zhD W (w.heap.size+1+1+1+1) (w.heap.size+1+1) n st T->T.cell? ⟨w.heap.size,0,none⟩=some (.slice a n c)/\Below w.heap.size w T/\w.heap.size<T.heap.size):=fun st T h=>⟨(h.1.cell (p:=⟨w.heap.size,0,none⟩) (by show w.heap.size < _;omega) (by show ¬ (w.heap.size=w.heap.size+1+1+1+1\/w.heap.size=w.heap.size+1+1);omega)).trans c0,J.out.trans (h.1.below J.out.size (fun k I=>by rcases I with I|I <;> omega)),by have:=h.1.size;omega⟩;clear A hb c0 V Z M CL
 go_loopg [17] L (fun g1 s17 wr=>∃ k:Nat,k<=L/\L-k<=g1/\s17=.int .i64 k/\Hid (zhD W (w.heap.size+1+1+1+1) (w.heap.size+1+1) n (zdf S near (places.take k)) wr))
 case atStart=>exact⟨0,by omega,by omega,rfl,by rw[H0.out];exact a6⟩
 case round =>
  obtain⟨k,I,b7,rfl,U⟩:=hrel;obtain⟨c0,D,c6⟩:=C0.out _ _ U.out;have a5:Hid _:=D;by_cases O:k<L
  ·have b6:(k:Int)<(L:Int):=by omega
   obtain⟨pb,po,rfl,hp⟩:=(HP.out.below D) k (by rw[HL.out];exact O);have b9:=ye _ _ hp;have hc:=a4.out (zdf S near (places.take k)) (places.getD k 0) wr U.out;have TK:=HT.out k O;rw[<- TK] at hc;have HC:Hid _:=hc;clear hc TK D;generalize places.getD k 0=y at *
   go_wp2_with fail
   refine yf HC.out ?_;rintro e w2 ⟨rfl,I2⟩
   go_wp2
   go_roundg (L-(k+1))
   case measure=>omega
   case rel=>exact⟨k+1,by omega,by omega,by go_num,I2⟩
  ·have b5:k=L:=by omega
   subst b5;obtain⟨hO,_,_,v,hv,F⟩:=U.out;have cb:=zbr hv
   have OW:Hid (wr.ownsRow w.heap.size 3 1 v R.length (R.map (Value.int .i64))):=by
    rw[HE.out];exact zcl F (by omega)
   have SM:Hid (R.length<=n):=by show _<=_;rw[HE.out];exact U.out.small
   clear hO hv F D
   go_wp2
   go_ret;exact⟨v,rfl,a5.out,OW.out,SM.out⟩
def tst(q:List Tst)(i:Nat):Tst:=q.getD i ⟨0,0,false⟩
def zaP(w:World)(a:Option Addr)(q:List Tst):Prop :=
 ∀ i,i<q.length->∃ b o,a=some ⟨b,o,none⟩/\w.cell? ⟨b,o+i*3,none⟩=some (.int .i64 (tst q i).t)/\w.cell? ⟨b,o+i*3+1,none⟩=some (.int .i64 (tst q i).m)/\w.cell? ⟨b,o+i*3+2,none⟩=some (.bool (tst q i).near)
theorem zaP.below{w w' : World}{a:Option Addr}{q:List Tst}(h:zaP w a q)(A:Below w.heap.size w w'):zaP w' a q:=fun i I=>by
 obtain⟨b,o,e,h1,D,F⟩:=h i I;exact⟨b,o,e,(A.cell (ye w ⟨b,o+i*3,none⟩ h1)).trans h1,(A.cell (ye w ⟨b,o+i*3+1,none⟩ D)).trans D,(A.cell (ye w ⟨b,o+i*3+2,none⟩ F)).trans F⟩
theorem zqM{q:List Tst}{j:Nat}(h:j<q.length):(q.take (j+1)).reverse=tst q j ::(q.take j).reverse:=by
 rw[List.take_add_one,List.getElem?_eq_getElem h,List.reverse_append];unfold tst;rw[zaf q _ h];rfl
theorem zpj{S:List Nd}{te:Tst}{l:List Tst}{ps:List Int}:zjF S (te :: l) ps=if l.length=0 then zes S te ps else zjF S l (zcC S te.near (zes S te ps)):=by
 cases l with
 | nil=>rfl
 | cons w r=>rfl
theorem zmT(S:List Nd)(a:Option Addr)(c:Nat)(te:Tst)(w:World)(hS:zae w a S)(A:Nat)(ps:List Int)(a8:zbY S ps)(v:Value)(W:World)(hb:Below w.heap.size w W)(T:A<W.heap.size)(Z:W.cell? ⟨w.heap.size,0,none⟩=some (.slice a S.length c))(t0:W.cell? ⟨A,0,none⟩=some (.int .i64 te.t))(t1:W.cell? ⟨A,1,none⟩=some (.int .i64 te.m))(t2:W.cell? ⟨A,2,none⟩=some (.bool te.near))
  (I:W.ownsRow (w.heap.size+1) 3 1 v ps.length (ps.map (Value.int .i64))) (a7:∀ k,v.ownBlock=some k->k≠A) :
  Calls Tryz.prog 125 #[v,.func (.func 139) #[] #[.pointer (some ⟨A,0,none⟩),.pointer (some ⟨w.heap.size,0,none⟩)]] W fun e w' => ∃ v', e=.returned v' /\ Below w.heap.size w w' /\ w'.ownsRow (w.heap.size+1) 3 1 v' (zes S te ps).length ((zes S te ps).map (Value.int .i64))/\(∀ o,w'.cell? ⟨A,o,none⟩=W.cell? ⟨A,o,none⟩)/\w'.cell? ⟨w.heap.size,0,none⟩=some (.slice a S.length c)/\W.heap.size<=w'.heap.size:=by
 have eg:=enters_of Tryz.func139 (by kernel_rfl) rfl;rcases I.2 with ⟨e,e0⟩ |⟨g,cap,a9,e,hg,U,h3,h4,h5,h6⟩
 ·subst e;have V:ps=[]:=List.length_eq_zero_iff.1 e0;subst V;refine(zgT _ _ W eg).mono ?_;rintro e w' ⟨rfl,D⟩;exact⟨_,rfl,hb.trans (D.mono hb.size),World.ownsRow_nil _ _ _ _,fun o=>D.cell (by exact T),(D.cell (ye _ _ Z)).trans Z,D.size⟩
 ·subst e;have a6:g≠A:=a7 g rfl;have b4:g<W.heap.size:=(Array.getElem?_eq_some_iff.1 U).1;have M:cap<=9223372036854775807:=by unfold maxLen at h4;omega
  obtain⟨_,_,_,_,G,hG,a5⟩:=zhy I
  have hst:∀ J,Off (fun b=>b=g) W J->Below w.heap.size w J/\(∀ o,J.cell? ⟨A,o,none⟩=W.cell? ⟨A,o,none⟩)/\J.cell? ⟨w.heap.size,0,none⟩=some (.slice a S.length c):=fun J h1 =>
   ⟨hb.trans (h1.below hb.size (fun k hk=>by omega)),fun o=>h1.cell (by exact T) (fun e=>a6 (by simpa using e.symm)),(h1.cell (ye _ _ Z) (fun e=>by simp at e;omega)).trans Z⟩
  refine(zhP 139 _ (fun x=>!zin te.t te.m (nd S x.toNat)) g ps.length cap ps G W rfl h3 M hG a5 eg (fun x hx J h1=>?_)).mono ?_
  ·obtain⟨k,rfl,hk⟩:=a8 x hx;obtain⟨b1,b2,b3⟩:=hst J h1;have:=zqJ a c S te.t te.m te.near A w.heap.size k J hk (hS.below b1) ((b2 0).trans t0) ((b2 1).trans t1) ((b2 2).trans t2) b3;rw[yg];exact this
  ·rintro e w' ⟨rfl,F,G', a4,O⟩;obtain⟨b1,b2,b3⟩:=hst w' F;refine⟨_,rfl,b1,zmy a4 O (yx (znR _ _) h3) h4 hg,b2,b3,F.size⟩
theorem zqe(a:Option Addr)(c:Nat)(S:List Nd)(place:Nat)(qa:Option Addr)(qc:Nat)(q:List Tst)(w:World)(wf:WF S)(hp:place<S.length)(hS:zae w a S)(hq:q.length<=6)(hQ:zaP w qa q) :
  Calls Tryz.prog 129 #[.agg #[.slice a S.length c],.int .i64 (place:Int),.slice qa q.length qc] w fun e w' => e=.returned (.bool (zbE S place q))/\Below w.heap.size w w' := by
 have hN:=wf.small;have O:Hid (∀ (te:Tst) bt ps,zbY S ps->∀ v W,Below w.heap.size w W->bt<W.heap.size->W.cell? ⟨w.heap.size,0,none⟩=some (.slice a S.length c)->W.cell? ⟨bt,0,none⟩=some (.int .i64 te.t)->W.cell? ⟨bt,1,none⟩=some (.int .i64 te.m)->W.cell? ⟨bt,2,none⟩=some (.bool te.near)->W.ownsRow (w.heap.size+1) 3 1 v ps.length (ps.map (Value.int .i64))->(∀ k,v.ownBlock=some k->k≠bt)->Calls _ _ _ _ _):=fun te bt ps g0 v W hb e9 cs t0 t1 t2 b7 f8=>zmT S a c te w hS bt ps g0 v W hb e9 cs t0 t1 t2 b7 f8;have d7:Hid (∀ pa pc places near W,zae W a S->places.length<=1000000->zaj W pa places->Calls _ _ _ _ _):=fun pa pc places near W hW hL hP=>zns a c S pa pc places near W hN hW hL hP;have PL:Hid (∀ near ps,zbY S ps->zbY S (zcC S near ps)):=fun near ps h=>(zjb wf near h).1;have PN:Hid (∀ te ps,zbY S ps->zbY S (zes S te ps)):=fun te ps h=>h.sift;have HS:Hid (zae w a S):=hS;have HQ:Hid (zaP w qa q):=hQ
 have TR:Hid (∀ j,j<q.length->∀ ps,zjF S (q.take (j+1)).reverse ps=if j=0 then zes S (tst q j) ps else zjF S (q.take j).reverse (zcC S (tst q j).near (zes S (tst q j) ps))):=fun j hj ps=>by
  rw[zqM hj,zpj];simp only[List.length_reverse,List.length_take];by_cases e:j=0
  ·subst e;rfl
  ·rw[ya (by omega),ya e]
 have H0:Hid (zjF S q.reverse [(place:Int)]=zjF S (q.take q.length).reverse [(place:Int)]):=by show _=_;rw[List.take_length]
 have HP:Hid (zbY S [(place:Int)]):=fun x hx=>⟨place,by simpa using hx,hp⟩;have HD:Hid (zbE S place q=decide (0<(zjF S q.reverse [(place:Int)]).length)):=rfl;generalize zbE S place q=R at *;generalize zjF S q.reverse [(place:Int)]=F at *;clear hS hQ wf;generalize hn:S.length=n at *;have HN:Hid _:=hn;clear hn;generalize hl:q.length=L at *;have HL:Hid _:=hl;clear hl
 go_enter Tryz.func129,Tryz.ntmps129
 go_wp2
 have c0:((w.alloc (.cells #[.slice a n c] 24)).alloc (.cells #[.int .i64 (place:Int)] 3)).cell? ⟨w.heap.size,0,none⟩=some (.slice a n c):=by go_simp
 have HO:Hid (((w.alloc (.cells #[.slice a n c] 24)).alloc (.cells #[.int .i64 (place:Int)] 3)).ownsRow (w.heap.size+1) 3 1 (.slice (some ⟨w.heap.size+1,0,none⟩) 1 1) ([(place:Int)]).length (([(place:Int)]).map (Value.int .i64))):=⟨by simp,Or.inr ⟨w.heap.size+1,1,#[.int .i64 (place:Int)],rfl,yi _,by
  have:=heap_alloc_new (w.alloc (.cells #[.slice a n c] 24)) (.cells #[.int .i64 (place:Int)] 3);simpa using this,by simp,by unfold maxLen;omega,by simp,by simp⟩⟩
 go_loopg [7,8] L (fun g1 s7 s8 wr=>∃ (j:Nat) (x:Int) (ps:List Int),j<=L/\j<=g1/\x=(j:Int)-1/\s8=.int .i64 x/\ps.length<=24/\Hid (Below w.heap.size w wr)/\wr.cell? ⟨w.heap.size,0,none⟩=some (.slice a n c)/\w.heap.size<wr.heap.size/\Hid (wr.ownsRow (w.heap.size+1) 3 1 s7 ps.length (ps.map (Value.int .i64)))/\Hid (zbY S ps)/\Hid (F=zjF S (q.take j).reverse ps))
 case atStart=>exact⟨L,(L:Int)-1,[(place:Int)],yi _,yi _,rfl,rfl,by simp,zav _ _ _,c0,by simp;omega,HO,HP,H0⟩
 case round =>
  obtain⟨j,x,ps,hj,g7,hx,rfl,f9,HB,cs,hs,Z,a4,HF⟩:=hrel;clear c0 HO HP H0;obtain⟨pa,pc,hv,I,T⟩:=zat Z.out;have HI:Hid _:=I;have HK:Hid _:=T;clear I T;by_cases f6:j=0
  ·subst f6;have g2:x = -1:=by omega
   subst g2;clear hx
   have hR:R=decide (0<ps.length):=by
    rw[HD.out,HF.out];rfl
   have HR:Hid _:=hR;rw[hv];clear hR hv;generalize ps.length=e7 at *
   go_wp2
   go_ret;exact⟨by rw[HR.out];rfl,HB.out⟩
  ·obtain⟨i,rfl⟩:∃ i,j=i+1:=⟨j-1,by omega⟩;obtain rfl:x=(i:Int):=by omega
   clear hx;have g8:(i:Int)<(L:Int):=by omega
   obtain⟨qb,qo,rfl,q0,q1,q2⟩:=(HQ.out.below HB.out) i (by rw[HL.out];omega);have h8:=ye _ _ q0;have a9:=TR.out i (by omega) ps;have a7:Hid _:=a9;clear a9;have SI:Hid (∀ W,Below w.heap.size w W->wr.heap.size<W.heap.size->W.cell? ⟨w.heap.size,0,none⟩=some (.slice a n c)->W.cell? ⟨wr.heap.size,0,none⟩=some (.int .i64 (tst q i).t)->W.cell? ⟨wr.heap.size,1,none⟩=some (.int .i64 (tst q i).m)->W.cell? ⟨wr.heap.size,2,none⟩=some (.bool (tst q i).near)->W.ownsRow (w.heap.size+1) 3 1 (.slice pa ps.length pc) ps.length (ps.map (Value.int .i64))->Calls _ _ _ _ _):=fun W h1 h2 h3 h4 h5 h6 h7=>O.out (tst q i) wr.heap.size ps a4.out (.slice pa ps.length pc) W h1 h2 h3 h4 h5 h6 h7 (fun k hk=>by have:=HK.out k (by rw[hv];exact hk);omega);have OW:Hid (wr.ownsRow (w.heap.size+1) 3 1 (.slice pa ps.length pc) ps.length (ps.map (Value.int .i64))):=by rw[<- hv];exact Z.out
   have a8:Hid (zbY S (zes S (tst q i) ps)):=PN.out _ _ a4.out;rw[hv];clear hv Z a4 HI HK O;have b8:(zes S (tst q i) ps).length<=24:=yx (znR _ _) f9;generalize c6:zes S (tst q i) ps=A at *;generalize c8:tst q i=te at *;have g5:Hid _:=c8;clear c6 c8;generalize b4:ps.length=e7 at *;have g4:Hid _:=b4;clear b4;obtain⟨tt,tm,tn⟩:=te;dsimp only at *
   go_wp2_with fail
   refine yf (SI.out _ (HB.out.alloc HB.out.size _) (by simp) (by go_simp) (by go_simp) (by go_simp) (by go_simp) (OW.out.alloc _)) ?_;rintro e w2 ⟨v', rfl,b5,how2,c7,a5,g3⟩;obtain⟨c9,d6,a6,D,_⟩:=zat how2;have t2:w2.cell? ⟨wr.heap.size,2,none⟩=some (.bool tn):=(c7 2).trans (by go_simp);have J:Hid _:=b5;have e0:Hid (w2.ownsRow (w.heap.size+1) 3 1 (.slice c9 A.length d6) A.length (A.map (Value.int .i64))):=by rw[<- a6];exact how2
   have d9:Hid _:=D;simp only[yk] at g3;have hs2:w.heap.size<w2.heap.size:=by omega
   have i0:wr.heap.size<w2.heap.size:=by omega
   clear b5 how2 D c7;rw[a6];clear a6;by_cases b6:i=0
   ·subst b6
    have V:Hid (F=zjF S (q.take 0).reverse A):=by
     show _=_;rw[HF.out,a7.out,yd rfl];rfl
    go_wp2
    go_roundg 0
    case measure=>omega
    case rel=>exact⟨0,-1,A,by omega,by omega,rfl,by go_num,b8,J,a5,hs2,e0,a8,V⟩
   ·have g9:(0:Int)<(i:Int):=by omega
    have V:Hid (F=zjF S (q.take i).reverse (zcC S tn A)):=by
     show _=_;rw[HF.out,a7.out,ya b6]
    have e8:Hid (zbY S (zcC S tn A)):=PL.out _ _ a8.out;have AB:Hid _:=d7.out c9 d6 A tn w2 (HS.out.below J.out) (by omega) d9.out;generalize b9:A.length=g6 at *;clear b9
    go_wp2_with fail
    refine yf AB.out ?_;rintro e w3 ⟨v3,rfl,M,U,f7⟩;have h9:=M.size;have f0:=(M.cell (ye _ _ a5)).trans a5;have d8:Hid (Below w.heap.size w w3):=J.out.trans (M.mono J.out.size);have e6:Hid (w3.ownsRow (w.heap.size+1) 3 1 v3 (zcC S tn A).length ((zcC S tn A).map (Value.int .i64))):=zcl U (by omega);clear U M
    go_wp2
    go_roundg i
    case measure=>omega
    case rel=>exact⟨i,(i:Int)-1,zcC S tn A,by omega,by omega,rfl,by go_num,by omega,d8,f0,by omega,e6,e8,V⟩
structure Slt where
 pl:Int
 num:Int
 gv:List Int
def zmq(S:List Nd)(x:Int):Int:=(nd S x.toNat).t-90
def zcf(S:List Nd)(H:Nat)(out:List Slt)(x:Int):List Slt :=
 if zmq S x<0 then out else out++[⟨x,zmq S x,if out.any (fun s=>decide (s.num=zmq S x)) then [] else zbF S H (zmq S x)⟩]
def zaG(S:List Nd)(H:Nat)(l:List Int):List Slt:=l.foldl (zcf S H) []
def zaz(S:List Nd)(H:Nat):List Slt:=if zbw S H = -1 then [] else zaG S H (zaw S S.length (zbw S H).toNat)
theorem zck{S:List Nd}{H:Nat}{mk x:Int}:x ∈ zbF S H mk↔x ∈ (nd S H).ks/\(nd S x.toNat).m=mk:=by
 unfold zbF;rw[zhY];unfold zaM;simp
theorem zdN(S:List Nd)(H:Nat)(l:List Int)(x:Int):zaG S H (l++[x])=zcf S H (zaG S H l) x:=by
 unfold zaG;rw[List.foldl_append];rfl
theorem zdK{α:Type}{P:List α->Prop}(h0:P [])(h1:∀ l x,P l->P (l++[x]))(l:List α):P l:=by
 have:∀ n,∀ l:List α,l.length=n->P l:=by
  intro n
  induction n with
  | zero=>intro l hl;cases l with|nil=>exact h0|cons=>cases hl
  | succ n A =>
   intro l hl;have w:l≠[]:=by intro e;subst e;cases hl
   rw[<- List.dropLast_concat_getLast w];exact h1 _ _ (A _ (by rw[List.length_dropLast];omega))
 exact this _ l rfl
theorem zft{S:List Nd}{H:Nat}(l:List Int):∀ s ∈ zaG S H l,s.pl ∈ l/\s.num=zmq S s.pl/\0<=s.num/\(s.gv=[]\/s.gv=zbF S H s.num):=by
 induction l using zdK with
 | h0=>intro s hs;cases hs
 | h1 l x A =>
  intro s hs;rw[zdN] at hs;unfold zcf at hs
  split at hs
  ·obtain⟨h1,w⟩:=A s hs;exact⟨List.mem_append_left _ h1,w⟩
  ·rename_i hn;rcases List.mem_append.1 hs with hs|hs
   ·obtain⟨h1,w⟩:=A s hs;exact⟨List.mem_append_left _ h1,w⟩
   ·have e:=List.mem_singleton.1 hs;subst e;refine⟨by simp,rfl,by dsimp only;omega,?_⟩;dsimp only;split
    ·exact Or.inl rfl
    ·exact Or.inr rfl
theorem zjw(S:List Nd)(H:Nat)(l:List Int):(zaG S H l).map Slt.pl=l.filter (fun x=>decide (0<=zmq S x)):=by
 induction l using zdK with
 | h0=>rfl
 | h1 l x w =>
  rw[zdN,List.filter_append,<- w];unfold zcf;split
  ·rename_i h;have:¬ 0<=zmq S x:=by omega
   simp[this]
  ·rename_i h;have:0<=zmq S x:=by omega
   simp[this]
theorem zju(S:List Nd)(H:Nat)(l:List Int):(zaG S H l).length<=l.length:=by
 have h:=congrArg List.length (zjw S H l);rw[List.length_map] at h;rw[h];exact List.length_filter_le _ _
theorem zmZ(S:List Nd)(H:Nat)(l:List Int):(zaG S H l).Pairwise (fun s D=>D.gv=[]\/s.num≠D.num):=by
 induction l using zdK with
 | h0=>exact List.Pairwise.nil
 | h1 l x F =>
  rw[zdN];unfold zcf;split
  ·exact F
  ·rw[List.pairwise_append];refine⟨F,List.pairwise_singleton _ _,fun s hs D A=>?_⟩;have e:=List.mem_singleton.1 A;subst e;dsimp only;split
   ·exact Or.inl rfl
   ·rename_i w;right;intro e;exact w (List.any_eq_true.2 ⟨s,hs,decide_eq_true e⟩)
theorem zjv{S:List Nd}{H:Nat}{l:List Int}{s F:Slt}(hs:s ∈ zaG S H l)(D:F ∈ zaG S H l){c:Int}(I:c ∈ s.gv)(w:c ∈ F.gv):s=F:=by
 obtain⟨_,_,_,h1⟩:=zft l s hs;obtain⟨_,_,_,h2⟩:=zft l F D;have V:s.gv≠[]:=fun e=>by rw[e] at I;cases I
 have Z:F.gv≠[]:=fun e=>by rw[e] at w;cases w
 have e1:=h1.resolve_left V;have e2:=h2.resolve_left Z;rw[e1] at I;rw[e2] at w;have T:=(zck.1 I).2;have U:=(zck.1 w).2;have J:=zmZ S H l;obtain⟨i,M,rfl⟩:=List.getElem_of_mem hs;obtain⟨j,O,rfl⟩:=List.getElem_of_mem D;rw[List.pairwise_iff_getElem] at J;rcases Nat.lt_trichotomy i j with A|e|A
 ·rcases J i j M O A with h|h
  ·exact absurd h Z
  ·exact absurd (T.symm.trans U) h
 ·subst e;rfl
 ·rcases J j i O M A with h|h
  ·exact absurd h V
  ·exact absurd (U.symm.trans T) h
def zcJ(S:List Nd):Nat->Nat->List Int
 | 0,_=>[]
 | h+1,p=>match (zaz S h).find? (fun s=>decide (s.pl=(p:Int))) with
  | some s=>s.gv
  | none=>zcJ S h p
def zpO(S:List Nd)(h:Nat)(L:List Slt)(p:Nat):List Int:=match L.find? (fun s=>decide (s.pl=(p:Int))) with
  | some s=>s.gv
  | none=>zcJ S h p
theorem zfi{S:List Nd}:∀ {h p:Nat} {c:Int},c ∈ zcJ S h p->∃ H s,H<h/\s ∈ zaz S H/\s.pl=(p:Int)/\c ∈ s.gv
 | 0,_,_,w=>by cases w
 | h+1,p,c,w=>by
  unfold zcJ at w
  split at w
  ·rename_i s hs;exact⟨h,s,by omega,List.mem_of_find?_eq_some hs,by have:=List.find?_some hs;simpa using this,w⟩
  ·obtain⟨H,s,h1,A⟩:=zfi w;exact⟨H,s,by omega,A⟩
theorem zfC{S:List Nd}:∀ {h p:Nat},zcJ S h p=[]\/∃ H s,H<h/\s ∈ zaz S H/\zcJ S h p=s.gv
 | 0,_=>Or.inl rfl
 | h+1,p=>by
  unfold zcJ;split
  ·rename_i s hs;exact Or.inr ⟨h,s,by omega,List.mem_of_find?_eq_some hs,rfl⟩
  ·rcases zfC (S:=S) (h:=h) (p:=p) with e |⟨H,s,h1,w⟩
   ·exact Or.inl e
   ·exact Or.inr ⟨H,s,by omega,w⟩
theorem zbe{S:List Nd}(h:WF S){H:Nat}{s:Slt}(hs:s ∈ zaz S H):∃ r k j:Nat,r<S.length/\(nd S r).h=H/\zbw S H=r/\s.pl=k/\k<S.length/\Up S j k r/\s.num=zmq S s.pl/\0<=s.num/\(s.gv=[]\/s.gv=zbF S H s.num)/\s ∈ zaG S H (zaw S S.length r):=by
 unfold zaz at hs
 split at hs
 ·cases hs
 ·rename_i hr;obtain⟨r,h1,w,A,_⟩:=zbM S H hr;rw[w,yg] at hs;obtain⟨F,I,J,M⟩:=zft _ s hs;obtain⟨q,e,hq,_,j,_,D⟩:=zcc h h1 (h.deep_all h1) _ F;exact⟨r,q,j,h1,A,w,e,hq,D,I,J,M,hs⟩
theorem znV{S:List Nd}(h:WF S):zeZ S (zcJ S S.length) where
 some:=fun p V c M=>by
  obtain⟨H,s,h1,D,h3,w⟩:=zfi M;obtain⟨r,k,j,r1,r2,_,r3,r4,r5,_,_,F,_⟩:=zbe h D;have:k=p:=by omega
  subst this;have e:=F.resolve_left (fun e=>by rw[e] at w;cases w);rw[e] at w;exact⟨H,r,j,h1,r1,r2,r5,(zck.1 w).1⟩
 one:=fun p p' c V a6 M O=>by
  obtain⟨H,s,h1,D,h3,w⟩:=zfi M;obtain⟨H', s', I,J,a5,A⟩:=zfi O;obtain⟨r,_,_,r1,r2,rr,_,_,_,_,_,F,r7⟩:=zbe h D;obtain⟨r', _,_,a7,a8,a9,_,_,_,_,_,T,U⟩:=zbe h J;have e:=F.resolve_left (fun e=>by rw[e] at w;cases w);have e' := T.resolve_left (fun e=>by rw[e] at A;cases A);have Z:=w;have k2:=A;rw[e] at Z;rw[e'] at k2;obtain⟨k,ek,_,_,p1,_⟩:=h.kid h1 (zck.1 Z).1;obtain⟨k', a4,_,_,p2,_⟩:=h.kid I (zck.1 k2).1;have:k=k' := by omega
  subst this;have:H=H' := by omega
  subst this;have:r=r' := by omega
  subst this;have:=zjv r7 U w A;subst this;omega
 nodup:=fun p V=>by
  rcases zfC (S:=S) (h:=S.length) (p:=p) with e |⟨H,s,h1,D,e⟩
  ·rw[e];exact List.nodup_nil
  ·rw[e];obtain⟨_,_,_,_,_,_,_,_,_,_,_,F,_⟩:=zbe h D;rcases F with e2|e2
   ·rw[e2];exact List.nodup_nil
   ·rw[e2];unfold zbF flt;exact(h.kids_nodup h1).filter _
theorem zcT{S:List Nd}(h:WF S){H:Nat}:((zaz S H).map Slt.pl).Nodup:=by
 unfold zaz;split
 ·exact List.nodup_nil
 ·rename_i hr;obtain⟨r,h1,w,_⟩:=zbM S H hr;rw[w,yg,zjw];exact(zdL h h1 (yi _) (h.deep_all h1)).filter _
theorem znT{S:List Nd}{h:Nat}{L:List Slt}(hn:(L.map Slt.pl).Nodup){i:Nat}(D:i<L.length)(p:Nat):zpO S h (L.take (i+1)) p=if L[i].pl=(p:Int) then L[i].gv else zpO S h (L.take i) p:=by
 unfold zpO;rw[List.take_succ_eq_append_getElem D,List.find?_append];by_cases e:L[i].pl=(p:Int)
 ·rw[yd e]
  have w:(L.take i).find? (fun s=>decide (s.pl=(p:Int)))=none:=by
   rw[List.find?_eq_none];intro s hs hd;have A:=of_decide_eq_true hd;obtain⟨j,F,rfl⟩:=List.getElem_of_mem hs;rw[List.length_take] at F;rw[List.getElem_take] at A;have:=(List.nodup_iff_pairwise_ne.1 hn);rw[List.pairwise_iff_getElem] at this;have:=this j i (by rw[List.length_map];omega) (by rw[List.length_map];omega) (by omega);rw[List.getElem_map,List.getElem_map] at this;exact this (A.trans e.symm)
  rw[w];simp[e]
 ·rw[ya e]
  cases (L.take i).find? (fun s=>decide (s.pl=(p:Int))) <;> simp[e]
theorem znW{S:List Nd}(h:WF S){A p:Nat}(hh:A<=S.length):(zcJ S A p).length<=24/\∀ c ∈ zcJ S A p,∃ k:Nat,c=k/\k<S.length:=by
 have hs:=h.small;rcases zfC (S:=S) (h:=A) (p:=p) with e |⟨H,s,h1,I,e⟩
 ·rw[e];exact⟨by simp,fun c w=>by cases w⟩
 ·rw[e];obtain⟨_,_,_,_,_,_,_,_,_,_,_,J,_⟩:=zbe h I;rcases J with e2|e2
  ·rw[e2];exact⟨by simp,fun c w=>by cases w⟩
  ·rw[e2]
   have F:∀ c ∈ zbF S H s.num,∃ k:Nat,c=k/\k<S.length:=fun c w=>by
    obtain⟨k,e,D,_⟩:=h.kid (by omega) (zck.1 w).1;exact⟨k,e,D⟩
   refine⟨?_,F⟩;have hnd:(zbF S H s.num).Nodup:=by unfold zbF flt;exact(h.kids_nodup (by omega)).filter _
   have:=hnd.length_le_of_subset (l₂:=(List.range S.length).map (fun i:Nat=>(i:Int))) (fun x hx=>by
    obtain⟨k,rfl,D⟩:=F x hx;exact List.mem_map.2 ⟨k,List.mem_range.2 D,rfl⟩)
   simp at this;omega
def slt(L:List Slt)(i:Nat):Slt:=L.getD i ⟨0,0,[]⟩
def zdZ(w:World)(a:Option Addr)(L:List Slt):Prop :=
 ∀ i,i<L.length->∃ b o,a=some ⟨b,o,none⟩/\w.cell? ⟨b,o+i*3,none⟩=some (.int .i64 (slt L i).pl)/\w.cell? ⟨b,o+i*3+1,none⟩=some (.int .i64 (slt L i).num)/\∃ A gc,w.cell? ⟨b,o+i*3+2,none⟩=some (.slice A (slt L i).gv.length gc)/\zaj w A (slt L i).gv
theorem zdZ.below{w w' : World}{a:Option Addr}{L:List Slt}(h:zdZ w a L)(D:Below w.heap.size w w'):zdZ w' a L:=fun i O=>by
 obtain⟨b,o,e,h1,I,F,gc,J,M⟩:=h i O;have A:b<w.heap.size:=ye _ _ h1;exact⟨b,o,e,(D.cell (by exact A)).trans h1,(D.cell (by exact A)).trans I,F,gc,(D.cell (by exact A)).trans J,M.below D⟩
theorem zbN{L:List Slt}{i:Nat}(h:i<L.length):slt L i=L[i]:=zaf L _ h
def zno(K:Nat)(A:Array Value)(p:Slt->Bool)(w:World):Prop :=
 ∀ (x:Slt) (k:Value) (D:World),Below w.heap.size w D->Calls Tryz.prog K (#[.agg #[.int .i64 x.pl,.int .i64 x.num,k]] ++ A) D fun e w2=>e=.returned (.bool (p x))/\Below D.heap.size D w2
theorem zkd(K:Nat)(F:Array Value)(p:Slt->Bool)(a:Option Addr)(c:Nat)(L:List Slt)(w:World)(U:L.length<=9223372036854775807)(T:zdZ w a L)
  (eg:∀ args w,(callFunc K args).run Tryz.prog w=.ok (.enter K args) w) (V:zno K F p w) :
  Calls Tryz.prog 153 #[.slice a L.length c,.func (.func K) #[] F] w fun e w' => ∃ r:Int,e=.returned (.int .i64 r)/\Below w.heap.size w w' /\
   ((r = -1/\∀ i,i<L.length->p (slt L i)=false)\/(∃ k:Nat,k<L.length/\r=k/\p (slt L k)=true/\∀ i,i<k->p (slt L i)=false)):=by
 have HS:Hid (zdZ w a L):=T;have HF:Hid (zno K F p w):=V;clear T V;generalize hn:L.length=n at *;have HN:Hid _:=hn;clear hn
 go_enter Tryz.func153,Tryz.ntmps153
 go_wp2
 go_loopg [8] n (fun g s8 wr=>∃ k:Nat,k<=n/\n-k<=g/\s8=.int .i64 k/\Below w.heap.size w wr/\Hid (∀ i,i<k->p (slt L i)=false))
 case atStart=>exact⟨0,by omega,by omega,rfl,yj _ _,fun i hi=>by omega⟩
 case round =>
  obtain⟨k,hk,hg,rfl,I,A⟩:=hrel;by_cases M:k<n
  ·have Z:(k:Int)<(n:Int):=by omega
   obtain⟨b,o,rfl,c0,c1,ka,kc,c2,_⟩:=(HS.out.below I) k (by rw[HN.out];exact M);have D:=fun v=>HF.out (slt L k) v wr I
   cases hq:p (slt L k) with
   | true =>
    have O:Hid (p (slt L k)=true):=hq;rw[hq] at D;clear hq;generalize hx:slt L k=x at D c0 c1 c2;clear hx
    go_wp2_with (go_at_fn K;refine(D _).mono ?_;rintro e w' ⟨rfl,J⟩)
    go_ret;exact⟨k,rfl,I.trans (J.mono I.size),Or.inr ⟨k,M,rfl,O.out,A.out⟩⟩
   | false =>
    have O:Hid (p (slt L k)=false):=hq;rw[hq] at D;clear hq;generalize hx:slt L k=x at D c0 c1 c2;clear hx
    go_wp2_with (go_at_fn K;refine(D _).mono ?_;rintro e w' ⟨rfl,J⟩)
    go_roundg (n-(k+1))
    case measure=>omega
    case rel =>
     refine⟨k+1,by omega,by omega,by go_num,I.trans (J.mono I.size),(show Hid _ from fun i hi=>?_)⟩;by_cases e:i=k
     ·subst e;exact O.out
     ·exact A.out i (by omega)
  ·have:k=n:=by omega
   subst this
   go_wp2
   go_ret;exact⟨-1,rfl,I,Or.inl ⟨rfl,A.out⟩⟩
theorem zgR(K:Nat)(F:Array Value)(p:Slt->Bool)(a:Option Addr)(c:Nat)(L:List Slt)(w:World)(J:L.length<=9223372036854775807)(T:zdZ w a L)
  (Z:∀ args w,(callFunc K args).run Tryz.prog w=.ok (.enter K args) w) (U:zno K F p w) :
  Calls Tryz.prog 148 #[.slice a L.length c,.func (.func K) #[] F] w fun e w' => e=.returned (.bool (L.any p))/\Below w.heap.size w w' := by
 have h:=zkd K F p a c L w J T Z U;have D:∀ k,k<L.length->p (slt L k)=true->L.any p=true:=fun k M O=>List.any_eq_true.2 ⟨slt L k,by rw[zbN M];exact List.getElem_mem M,O⟩
 have A:(∀ i,i<L.length->p (slt L i)=false)->L.any p=false:=fun H=>by
  rw[List.any_eq_false];intro x hx;obtain⟨i,V,rfl⟩:=List.getElem_of_mem hx;have:=H i V;rw[zbN V] at this;simp[this]
 have H:Hid _:=D;have N:Hid _:=A;clear D A T U
 go_enter Tryz.func148,Tryz.ntmps148
 go_wp2_with (go_at_call 153;refine h.mono ?_;rintro e w' ⟨r,rfl,hb,hr⟩)
 go_ret;refine⟨?_,hb⟩;rcases hr with ⟨rfl,I⟩ |⟨k,M,rfl,O,_⟩
 ·rw[N.out I];rfl
 ·rw[H.out k M O];simp
theorem zjs(x:Slt)(k:Value)(q:Nat)(y:Int)(w:World)(hq:w.cell? ⟨q,0,none⟩=some (.int .i64 y)) :
  Calls Tryz.prog 149 #[.agg #[.int .i64 x.pl,.int .i64 x.num,k],.pointer (some ⟨q,0,none⟩)] w fun e w' => e=.returned (.bool (decide (x.num=y)))/\Below w.heap.size w w' := by
 obtain⟨pl,num,gv⟩:=x;dsimp only;have A:=ye _ _ hq;by_cases e:num=y
 ·subst e;rw[decide_eq_true rfl]
  go_enter Tryz.func149,Tryz.ntmps149
  go_wp2
  go_ret;exact⟨rfl,(yj _ _).alloc (yi _) _⟩
 ·rw[decide_eq_false e];have e2:(num == y)=false:=by simpa using e
  go_enter Tryz.func149,Tryz.ntmps149
  go_wp2
  go_ret;exact⟨rfl,(yj _ _).alloc (yi _) _⟩
theorem zlZ(a:Option Addr)(c:Nat)(L:List Slt)(q:Nat)(y:Int)(w:World)(A:L.length<=9223372036854775807)(D:zdZ w a L)(hq:w.cell? ⟨q,0,none⟩=some (.int .i64 y)) :
  Calls Tryz.prog 148 #[.slice a L.length c,.func (.func 149) #[] #[.pointer (some ⟨q,0,none⟩)]] w fun e w' => e=.returned (.bool (L.any fun s=>decide (s.num=y)))/\Below w.heap.size w w' :=
 zgR 149 _ (fun s=>decide (s.num=y)) a c L w A D (enters_of Tryz.func149 (by kernel_rfl) rfl) (fun x k F h1=>zjs x k q y F ((h1.cell (by exact ye _ _ hq)).trans hq))
structure Cl where
 n:Int
 ks:List Int
 deriving DecidableEq
def zrf:Cl:=⟨0,[]⟩
def cl(G:List Cl)(i:Nat):Cl:=G.getD i zrf
theorem zfB{G:List Cl}{i:Nat}(h:i<G.length):cl G i=G[i]:=zaf G zrf h
theorem zsl{G H:List Cl}(hl:G.length=H.length)(h:∀ i,i<G.length->cl G i=cl H i):G=H:=by
 apply List.ext_getElem hl;intro i h1 w;have:=h i h1
 rwa [zfB h1,zfB w] at this
def zdh(m:Nat)(x:Cl):Int:=if x.n < -1000000\/1000000<x.n then 2 else if 8<x.ks.length then 1 else if x.ks.any (fun k=>!decide (0<=k/\k<=(m:Int)-1)) then 4 else 0
def cellsE(m:Nat):List Cl->Int
 | []=>0
 | x :: l=>if zdh m x=0 then cellsE m l else zdh m x
def bring(T:List Int)(k:Int):List Int:=if k ∈ T then T else T++[k]
def brings(T ks:List Int):List Int:=ks.foldl bring T
def bfs(G:List Cl):Nat->List Int
 | 0=>[0]
 | i+1=>if i<(bfs G i).length then brings (bfs G i) (cl G ((bfs G i).getD i 0).toNat).ks else bfs G i
def reach(G:List Cl):List Int:=bfs G G.length
end Go.Proofs.YtgjfmepbphfjoaaGreat
