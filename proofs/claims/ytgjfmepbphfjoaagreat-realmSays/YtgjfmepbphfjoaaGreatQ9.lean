/-
  x
-/
import Derived.Test.YtgjfmepbphfjoaaGreatQ8
namespace Go.Proofs.YtgjfmepbphfjoaaGreat
set_option maxRecDepth 100000
set_option maxHeartbeats 4000000
set_option linter.unusedVariables false
open Go.RowKit
def leaveG(S:List Nd)(ch:Nat):List Nd:=if (nd S ch).p = -1 then S else zbu S (nd S ch).p.toNat ch
theorem zaF(S:List Nd)(ch:Nat):(leaveG S ch).length=S.length:=by
 unfold leaveG;split
 ·rfl
 ·exact zaR _ _ _
theorem Own.up{w:World}{B g:Nat}{S:List Nd}{kb kc:Nat->Nat}(h:Own w B g S kb kc S.length)(w3:World)(A:∀ b,g<=b->w3.heap[b]?=w.heap[b]?):zae w3 (some ⟨g,0,none⟩) S:=by
 obtain⟨V,F,Z,hN,hg,hd⟩:=h;refine Own.nds (B:=B) (kb:=kb) (kc:=kc) ⟨V,F,Z.of_block (A g (yi _)),fun i I=>?_,hg,hd⟩;obtain⟨J,e1,e2,e3,e4,e5,M,O,T,D,G,hG,U⟩:=hN i I;exact⟨J,e1,e2,e3,e4,e5,M,O,T,D,G,hG.of_block (A (kb i) (Nat.le_of_lt (hg i I))),U⟩
def zsF(g n:Nat)(kb:Nat->Nat):Nat->Prop:=fun b=>b=g\/∃ i,i<n/\b=kb i
theorem zoo(B g c:Nat)(S:List Nd)(kb kc:Nat->Nat)(ch:Nat)(w:World)(M:Own w B g S kb kc S.length)(hch:ch<S.length)(A:(nd S ch).p = -1\/∃ D:Nat,D<S.length/\D≠ch/\(nd S ch).p=D) :
  Calls Tryz.prog 106 #[.slice (some ⟨g,0,none⟩) S.length c,.int .i64 ch] w fun e w' => e=.returned (.tuple #[])/\Off (zsF g S.length kb) w w' /\ Own w' B g (leaveG S ch) kb kc (leaveG S ch).length:=by
 rcases A with A |⟨D,hpa,U,A⟩
 ·have hc:w.cell? ⟨g,ch*8+4,none⟩=some (.int .i64 (-1)):=by
   obtain⟨_,F,Z,hN,_,_⟩:=M;obtain⟨_,_,_,_,e4,_⟩:=hN ch hch;rw[Z.cell (by omega),e4,A]
  refine(zmi g c S.length ch w hch hc).mono ?_;rintro e w' ⟨T,V⟩;refine⟨T,Off.of_below V,?_⟩;unfold leaveG;rw[yd A];exact M.below V
 ·refine(ziU B g c S kb kc D ch w M hpa hch U A).mono ?_;rintro e w' ⟨T,J,O⟩;refine⟨T,J.mono (fun k _ I=>?_),?_⟩
  ·rcases I with I|I
   ·exact Or.inl I
   ·exact Or.inr ⟨D,hpa,I⟩
  ·unfold leaveG;rw[ya (by omega),A,yg];exact O
theorem zez{w A:World}{v:Value}{x y:Int}(D:Below (w.heap.size+1+1+1) (((w.alloc (.cells #[v] 24)).alloc (.cells #[.int .i64 x,.int .i64 y] 39)).alloc (.cells #[.bool false,.int .i64 0,.int .i64 0,.int .i64 0,.int .i64 0,.slice none 0 0,.int .i64 0,.bool false] 47)) A) :
  (A.cell? ⟨w.heap.size,0,none⟩=some v/\A.cell? ⟨w.heap.size+1,0,none⟩=some (.int .i64 x)/\A.cell? ⟨w.heap.size+1,1,none⟩=some (.int .i64 y)) /\
  (A.cell? ⟨w.heap.size+1+1,0,none⟩=some (.bool false)/\A.cell? ⟨w.heap.size+1+1,1,none⟩=some (.int .i64 0)/\A.cell? ⟨w.heap.size+1+1,2,none⟩=some (.int .i64 0)/\A.cell? ⟨w.heap.size+1+1,3,none⟩=some (.int .i64 0)/\A.cell? ⟨w.heap.size+1+1,4,none⟩=some (.int .i64 0)/\A.cell? ⟨w.heap.size+1+1,5,none⟩=some (.slice none 0 0)/\A.cell? ⟨w.heap.size+1+1,6,none⟩=some (.int .i64 0)/\A.cell? ⟨w.heap.size+1+1,7,none⟩=some (.bool false)) /\
  (∀ o,A.frozen? ⟨w.heap.size+1+1,o,none⟩=false)/\Below w.heap.size w A:=by
 refine⟨⟨?_,?_,?_⟩,⟨?_,?_,?_,?_,?_,?_,?_,?_⟩,fun o=>?_,(zal _ _ _ _).trans (D.mono (by omega))⟩
 all_goals first|exact(D.cell (by first|(simp;done)|(simp;omega))).trans (by go_simp)|exact(D.frozen (by first|(simp;done)|(simp;omega))).trans (by go_simp)
def zas(S:List Nd)(p u:Int):Int:=if zaD S=0 then zco S p u else zaD S
theorem znL{S:List Nd}{p u:Int}(h:WF S)(hh:zco S p u=0):zas S p u=0:=by
 rw[zas,yd ((zdy S).mpr h)];exact hh
theorem zeA{S:List Nd}{p u:Int}(h:zas S p u=0):zaD S=0/\zco S p u=0:=by
 unfold zas at h;by_cases w:zaD S=0
 ·rw[yd w] at h;exact⟨w,h⟩
 ·rw[ya w] at h;exact absurd h w
theorem zge(a:Option Addr)(c:Nat)(S:List Nd)(p u E:Int)(w:World)(hN:S.length<=9223372036854775807)(hB:Big S)(hS:zae w a S)(F:zas S p u=E)(a4:E≠0) :
  Calls Tryz.prog 10 #[.agg #[.slice a S.length c],.agg #[.int .i64 p,.int .i64 u]] w fun e w' => e=.returned (.tuple #[.agg #[.bool false,.int .i64 0,.int .i64 0,.int .i64 0,.int .i64 0,.slice none 0 0,.int .i64 0,.bool false],.int .i64 E])/\Below w.heap.size w w' := by
 have d0:=fun W hW=>zdn a c S W hN hB hW;have d1:=fun W hW=>zgq a c S p u W hN hW;have HS:Hid (zae w a S):=hS;have hz:(E == 0)=false:=by simp[a4]
 unfold zas at F;by_cases O:zaD S=0
 ·rw[yd O] at F;rw[F] at d1;rw[O] at d0;have D0:Hid _:=d0;have D1:Hid _:=d1;clear hS d0 d1 F hB O;generalize S.length=n at *
  go_enter Tryz.func10,Tryz.ntmps10
  go_wp2_with (go_at_call 20;refine(D0.out _ (HS.out.below (zal _ _ _ _))).mono ?_;rintro e w1 ⟨rfl,A⟩;simp only[yk] at A;obtain⟨⟨l0,l1,l2⟩,⟨U,V,Z,z3,z4,z5,z6,z7⟩,I,D⟩:=zez A)
  refine(D1.out _ (HS.out.below D)).mono ?_;rintro e w2 ⟨rfl,M⟩;have T:=A.size;simp only[yk] at T;have J:=A.trans (M.mono T);clear l0 l1 l2 U V Z z3 z4 z5 z6 z7 I D A M;obtain⟨⟨l0,l1,l2⟩,⟨U,V,Z,z3,z4,z5,z6,z7⟩,I,D⟩:=zez J
  go_wp2
  refine yq (v:=.tuple #[.agg #[.bool false,.int .i64 0,.int .i64 0,.int .i64 0,.int .i64 0,.slice none 0 0,.int .i64 0,.bool false],.int .i64 E]) (by simp[results,Tryz.results10,go_sem,U,V,Z,z3,z4,z5,z6,z7]) rfl ⟨rfl,?_⟩;exact(((((((D.setCell (by simp;omega) _).setCell (by simp;omega) _).setCell (by simp;omega) _).setCell (by simp;omega) _).setCell (by simp;omega) _).setCell (by simp;omega) _).setCell (by simp;omega) _).setCell (by simp;omega) _
 ·rw[ya O] at F;rw[F] at d0;have D0:Hid _:=d0;clear hS d0 d1 F hB O;generalize S.length=n at *
  go_enter Tryz.func10,Tryz.ntmps10
  go_wp2_with (go_at_call 20;refine(D0.out _ (HS.out.below (zal _ _ _ _))).mono ?_;rintro e w1 ⟨rfl,A⟩;simp only[yk] at A;obtain⟨⟨l0,l1,l2⟩,⟨U,V,Z,z3,z4,z5,z6,z7⟩,I,D⟩:=zez A)
  refine yq (v:=.tuple #[.agg #[.bool false,.int .i64 0,.int .i64 0,.int .i64 0,.int .i64 0,.slice none 0 0,.int .i64 0,.bool false],.int .i64 E]) (by simp[results,Tryz.results10,go_sem,U,V,Z,z3,z4,z5,z6,z7]) rfl ⟨rfl,?_⟩;exact(((((((D.setCell (by simp;omega) _).setCell (by simp;omega) _).setCell (by simp;omega) _).setCell (by simp;omega) _).setCell (by simp;omega) _).setCell (by simp;omega) _).setCell (by simp;omega) _).setCell (by simp;omega) _
theorem find_ok(a:Option Addr)(c:Nat)(S:List Nd)(k:Nat)(u:Int)(w:World)(hN:S.length<=9223372036854775807)(hB:Big S)(hS:zae w a S)(hk:k<S.length)(hE:zas S k u=0)(hK:(nd S k).ks.length<=1000000) :
  Calls Tryz.prog 10 #[.agg #[.slice a S.length c],.agg #[.int .i64 k,.int .i64 u]] w fun e w' => ∃ g,e=.returned (.tuple #[.agg #[.bool (nd S k).u,.int .i64 (nd S k).n,.int .i64 (nd S k).t,.int .i64 (nd S k).m,.int .i64 (nd S k).p,.slice (some ⟨g,0,none⟩) (nd S k).ks.length (nd S k).ks.length,.int .i64 (nd S k).h,.bool (nd S k).c],.int .i64 0])/\Below w.heap.size w w' /\ zaj w' (some ⟨g,0,none⟩) (nd S k).ks:=by
 have d1:=fun W V=>zgq a c S k u W hN V;rw[(zeA hE).2] at d1;have D1:Hid _:=d1;have d0:=fun W V=>zdn a c S W hN hB V;rw[(zeA hE).1] at d0;have D0:Hid _:=d0;have HS:Hid (zae w a S):=hS;have d2:=fun ka kc W V=>zfO (nd S k) ka kc W hK V;have D2:Hid _:=d2;have NX:Hid (∀ w1,Below w.heap.size w w1->∃ b o,a=some ⟨b,o,none⟩/\zpq w1 b (o+k*8) (nd S k)):=fun w1 h1=>(hS.below h1) k hk;have b4:(k:Int)<(S.length:Int):=by omega
 have IR:Hid (∀ (W:World) g,W.rowIs g 3 (nd S k).ks.length (fun j=>.int .i64 ((nd S k).ks.getD j 0))->zaj W (some ⟨g,0,none⟩) (nd S k).ks):=fun W g h=>zbZ h (yi _) (fun _ _=>rfl);clear hS d0 d1 d2 hE hK hB;generalize nd S k=x at *;obtain⟨xu,xn,xt,xm,xp,a7,xh,xc⟩:=x;unfold zpq at NX;dsimp only at *;generalize hL:a7.length=L at *;have HL:Hid _:=hL;clear hL;generalize S.length=n at *
 go_enter Tryz.func10,Tryz.ntmps10
 go_wp2_with (go_at_call 20;refine(D0.out _ (HS.out.below (zal _ _ _ _))).mono ?_;rintro e w0 ⟨rfl,A⟩;simp only[yk] at A;obtain⟨⟨l0,l1,l2⟩,⟨z0,z1,z2,z3,z4,z5,z6,z7⟩,F,M⟩:=zez A)
 refine(D1.out _ (HS.out.below M)).mono ?_;rintro e w1 ⟨rfl,I⟩;have a5:=A.size;simp only[yk] at a5;have T:=A.trans (I.mono a5);clear l0 l1 l2 z0 z1 z2 z3 z4 z5 z6 z7 F M A I;obtain⟨⟨l0,l1,l2⟩,⟨z0,z1,z2,z3,z4,z5,z6,z7⟩,F,D⟩:=zez T;obtain⟨b,o,rfl,c0,c1,c2,c3,c4,⟨ka,kc,c5,a4⟩,c6,c7⟩:=NX.out _ D;have a9:Hid _:=a4;have U:Hid _:=T;clear a4 T D
 go_wp2_with fail
 refine(D2.out ka kc _ a9.out).mono ?_;rintro e w2 ⟨g,rfl,Z,hg,O⟩;have a6:=U.out.size;simp only[yk] at a6;have J:=U.out.trans (Z.mono a6);clear l0 l1 l2 z0 z1 z2 z3 z4 z5 z6 z7 F c0 c1 c2 c3 c4 c5 c6 c7;obtain⟨⟨l0,l1,l2⟩,⟨z0,z1,z2,z3,z4,z5,z6,z7⟩,F,D⟩:=zez J;have a8:Hid _:=D;have HR:Hid (w2.rowIs g 3 L (fun j=>.int .i64 (a7.getD j 0))):=O;clear Z J D O
 go_wp2
 refine yq (v:=.tuple #[.agg #[.bool xu,.int .i64 xn,.int .i64 xt,.int .i64 xm,.int .i64 xp,.slice (some ⟨g,0,none⟩) L L,.int .i64 xh,.bool xc],.int .i64 0]) (by simp[results,Tryz.results10,go_sem,z0,z1,z2,z3,z4,z5,z6,z7]) rfl ⟨g,rfl,?_,?_⟩
 ·exact(((((((a8.out.setCell (by simp;omega) _).setCell (by simp;omega) _).setCell (by simp;omega) _).setCell (by simp;omega) _).setCell (by simp;omega) _).setCell (by simp;omega) _).setCell (by simp;omega) _).setCell (by simp;omega) _
 ·refine IR.out _ g ?_;exact(((((((HR.out.setOther (by simp;omega) _).setOther (by simp;omega) _).setOther (by simp;omega) _).setOther (by simp;omega) _).setOther (by simp;omega) _).setOther (by simp;omega) _).setOther (by simp;omega) _).setOther (by simp;omega) _
theorem WF.kid_deep{S:List Nd}(h:WF S){f p:Nat}(I:p<S.length)(F:Deep S (f+1) p){x:Int}(hx:x ∈ (nd S p).ks) :
  ∃ k:Nat,x=k/\k<S.length/\(nd S k).u=true/\(nd S k).p=p/\zah (nd S k)=p/\Deep S f k:=by
 obtain⟨k,rfl,h1,w,A,D⟩:=h.kid I hx;have:=(F (k:Int) hx).2;rw[yg] at this;exact⟨k,rfl,h1,w,A,D,this⟩
theorem zcc{S:List Nd}(h:WF S):∀ {f p:Nat},p<S.length->Deep S f p->∀ x ∈ zaw S f p,∃ q:Nat,x=q/\q<S.length/\(q=p\/(nd S q).u=true)/\∃ j,j<=f/\Up S j q p
 | 0,p,w,_,x,hx=>by
  have:x=(p:Int):=by simpa [zaw] using hx
  exact⟨p,this,w,Or.inl rfl,0,yi _,rfl⟩
 | f+1,p,w,M,x,hx=>by
  simp only[zaw,List.mem_cons,List.mem_flatMap] at hx;rcases hx with rfl |⟨k,O,hx⟩
  ·exact⟨p,rfl,w,Or.inl rfl,0,by omega,rfl⟩
  ·obtain⟨k,rfl,h1,F,T,I,J⟩:=h.kid_deep w M O;rw[yg] at hx;obtain⟨q,e,hq,A,j,U,D⟩:=zcc h h1 J x hx;refine⟨q,e,hq,Or.inr ?_,j+1,by omega,D.trans (WF.up_one w I)⟩;rcases A with rfl|A
   ·exact F
   ·exact A
theorem zfH{α β:Type}(g:α->List β):∀ (ks:List α),ks.Nodup->(∀ k ∈ ks,(g k).Nodup)->(∀ k ∈ ks,∀ k' ∈ ks,k≠k' -> ∀ x ∈ g k,x ∉ g k')->(ks.flatMap g).Nodup
 | [],_,_,_=>by simp
 | k :: ks,hn,hg,hd=>by
  rw[List.flatMap_cons,List.nodup_append];obtain⟨h1,A⟩:=List.nodup_cons.1 hn;refine⟨hg k (by simp),zfH g ks A (fun k' w=>hg k' (by simp[w])) (fun a D b F=>hd a (by simp[D]) b (by simp[F])),fun x hx y hy e=>?_⟩;obtain⟨k', w,hy⟩:=List.mem_flatMap.1 hy;exact hd k (by simp) k' (by simp[w]) (fun e=>h1 (by rw[e];exact w)) x hx (by rw[e];exact hy)
theorem ziE(S:List Nd)(j:Nat):∀ {k k' : Nat},k<=k' -> k' <= S.length->zdA S k j<=zdA S k' j:=by
 intro k k' w
 induction w with
 | refl=>intro _;exact yi _
 | step _ A =>
  intro h;rw[zcO S _ j (by omega)];have:=A (by omega);omega
theorem WF.kids_nodup{S:List Nd}(h:WF S){i:Nat}(w:i<S.length):(nd S i).ks.Nodup:=by
 rw[List.nodup_iff_count];intro x;by_cases hx:x ∈ (nd S i).ks
 ·obtain⟨k,rfl,A,_⟩:=h.kid w hx;have h1:=(h.kids.2 k A).1;have D:=zcO S i k w;have F:=ziE S k (k:=i+1) (k' := S.length) (by omega) (yi _);omega
 ·rw[List.count_eq_zero.2 hx];omega
theorem WF.in_kids{S:List Nd}(h:WF S){k:Nat}(I:k<S.length){y:Nat}(M:(nd S k).p=y):y<S.length/\(k:Int) ∈ (nd S y).ks:=by
 have D:=(h.kids.2 k I).2 (by omega);unfold zdA at D;rw[List.take_length] at D
 have A:(k:Int) ∈ S.flatMap Nd.ks:=by
  by_cases A:(k:Int) ∈ S.flatMap Nd.ks
  ·exact A
  ·exact absurd (List.count_eq_zero.2 A) D
 obtain⟨x,hx,w⟩:=List.mem_flatMap.1 A;obtain⟨i,F,rfl⟩:=List.getElem_of_mem hx;rw[<- zaJ F] at w;obtain⟨k', e,_,_,J,_⟩:=h.kid F w;have:k' = k:=by omega
 subst this;have:y=i:=by omega
 subst this;exact⟨F,w⟩
theorem zdL{S:List Nd}(h:WF S):∀ {f p:Nat},p<S.length->f<=S.length->Deep S f p->(zaw S f p).Nodup
 | 0,p,_,_,_=>by simp[zaw]
 | f+1,p,w,hf,O=>by
  simp only[zaw];rw[List.nodup_cons];refine⟨fun T=>?_,zfH _ _ (h.kids_nodup w) (fun x hx=>?_) (fun x hx y hy a6 z hz J=>?_)⟩
  ·obtain⟨x,hx,T⟩:=List.mem_flatMap.1 T;obtain⟨k,rfl,h1,h2,h3,M,I⟩:=h.kid_deep w O hx;rw[yg] at T;obtain⟨q,e,hq,_,j,hj,A⟩:=zcc h h1 I _ T;have:q=p:=by omega
   subst this;exact h.no_ring w (j:=j+1) (by omega) (by omega) (A.trans (WF.up_one w M))
  ·obtain⟨k,rfl,h1,h2,h3,M,I⟩:=h.kid_deep w O hx;rw[yg];exact zdL h h1 (by omega) I
  ·obtain⟨k,rfl,h1,h2,h3,M,I⟩:=h.kid_deep w O hx;obtain⟨k', rfl,U,a7,a8,V,Z⟩:=h.kid_deep w O hy;rw[yg] at hz J;obtain⟨q,e,hq,_,j,hj,A⟩:=zcc h h1 I _ hz;obtain⟨q', e', b4,_,D,a9,F⟩:=zcc h U Z _ J;have:q=q' := by omega
   subst this;have u1:=A.trans (WF.up_one w M);have u2:=F.trans (WF.up_one w V)
   have a4:j=D:=by
    rcases Nat.lt_trichotomy j D with a5|e|a5
    ·obtain⟨y,v1,v2⟩:=Up.split (i:=j+1) (j:=D-j) (by rw[show j+1+(D-j)=D+1 by omega];exact u2);have:=Up.det v1 u1;subst this;exact absurd v2 (h.no_ring w (by omega) (by omega))
    ·exact e
    ·obtain⟨y,v1,v2⟩:=Up.split (i:=D+1) (j:=j-D) (by rw[show D+1+(j-D)=j+1 by omega];exact u1);have:=Up.det v1 u2;subst this;exact absurd v2 (h.no_ring w (by omega) (by omega))
   subst a4;exact a6 (by rw[Up.det A F])
theorem zdc{S:List Nd}(h:WF S){p:Nat}(w:p<S.length):(zaw S S.length p).length<=S.length:=by
 have h1:=zdL h w (yi _) (h.deep_all w)
 have:=h1.length_le_of_subset (l₂:=(List.range S.length).map (fun i:Nat=>(i:Int))) (fun x hx=>by
  obtain⟨q,rfl,hq,_⟩:=zcc h w (h.deep_all w) x hx;exact List.mem_map.2 ⟨q,List.mem_range.2 hq,rfl⟩)
 simpa using this
def Par(S:List Nd):List Int->List Int->Prop
 | _,[]=>True
 | seen,x :: r=>(nd S x.toNat).p ∈ seen/\Par S (seen++[x]) r
theorem Par.append{S:List Nd}:∀ {a b seen:List Int},Par S seen a->Par S (seen++a) b->Par S seen (a++b)
 | [],b,seen,_,w=>by simpa using w
 | x :: a,b,seen,⟨h1,A⟩,w=>⟨h1,Par.append A (by simpa using w)⟩
theorem Par.flat{S:List Nd}{p:Int}(g:Int->List Int):∀ (ks seen:List Int),p ∈ seen->(∀ k ∈ ks,∀ w,p ∈ w->Par S w (g k))->Par S seen (ks.flatMap g)
 | [],_,_,_=>trivial
 | k :: ks,seen,D,hg=>by
  rw[List.flatMap_cons];exact Par.append (hg k (by simp) seen D) (Par.flat g ks _ (by simp[D]) (fun k' A=>hg k' (by simp[A])))
theorem zjh{S:List Nd}(h:WF S):∀ {f p:Nat} {seen:List Int},p<S.length->Deep S f p->(nd S p).p ∈ seen->Par S seen (zaw S f p)
 | 0,p,seen,_,_,w=>⟨by simpa using w,trivial⟩
 | f+1,p,seen,J,I,w=>by
  refine⟨by simpa using w,Par.flat (p:=(p:Int)) _ _ _ (by simp) (fun x hx A hs=>?_)⟩;obtain⟨k,rfl,h1,M,D,O,F⟩:=h.kid_deep J I hx;rw[yg];exact zjh h h1 F (by rw[D];exact hs)
theorem zqq{S:List Nd}(h:WF S){f p:Nat}(I:p<S.length)(F:Deep S f p):∃ r,zaw S f p=(p:Int) :: r/\Par S [(p:Int)] r:=by
 cases f with
 | zero=>exact⟨[],rfl,trivial⟩
 | succ f =>
  refine⟨_,rfl,Par.flat (p:=(p:Int)) _ _ _ (by simp) (fun x hx w hs=>?_)⟩;obtain⟨k,rfl,h1,J,A,M,D⟩:=h.kid_deep I F hx;rw[yg];exact zjh h h1 D (by rw[A];exact hs)
theorem Par.get{S:List Nd}:∀ {r seen:List Int} {i:Nat},Par S seen r->i<r.length->(nd S (r.getD i 0).toNat).p ∈ seen++r.take i
 | x :: r,seen,0,⟨h1,_⟩,_=>by simpa using h1
 | x :: r,seen,i+1,⟨_,w⟩,A=>by
  have:=Par.get w (i:=i) (by simpa using A);simpa using this
theorem zqX{S:List Nd}(h:WF S):∀ {f p:Nat},p<S.length->Deep S f p->∀ y ∈ zaw S f p,∀ k ∈ (nd S y.toNat).ks,k ∈ zaw S f p
 | 0,p,_,A,y,hy,k,w=>by
  have:y=(p:Int):=by simpa [zaw] using hy
  subst this;rw[yg,show (nd S p).ks=[] from A] at w;cases w
 | f+1,p,F,A,y,hy,k,w=>by
  simp only[zaw,List.mem_cons,List.mem_flatMap] at hy |-;right;rcases hy with rfl |⟨x,hx,hy⟩
  ·rw[yg] at w;obtain⟨k', rfl,h1,I,J,M,D⟩:=h.kid_deep F A w;refine⟨_,w,?_⟩;rw[yg]
   cases f <;> simp[zaw]
  ·obtain⟨k', rfl,h1,I,J,M,D⟩:=h.kid_deep F A hx;rw[yg] at hy;refine⟨_,hx,?_⟩;rw[yg];exact zqX h h1 D y hy k w
def zan(S:List Nd)(p:Nat):List Int:=zaw S S.length p
structure zlE (S:List Nd) (k:Nat) (l:List Int):Prop where
 pos:0<l.length
 small:l.length<=24
 head:l.getD 0 0=k
 each:∀ i,i<l.length->∃ q:Nat,l.getD i 0=q/\q<S.length/\(nd S q).u=true/\(q:Int) ∉ l.take i/\(0<i->(nd S q).p ∈ l.take i)
 closed:∀ q:Nat,q<S.length->0<=(nd S q).p->q≠k->decide ((nd S q).p ∈ l)=decide ((q:Int) ∈ l)
theorem ziM(S:List Nd)(p u:Int):zdR S [(p,u)]=zco S p u:=by
 simp only[zdR];by_cases h:zco S p u=0
 ·rw[yd h,h]
 ·rw[ya h]
theorem holds_zero{S:List Nd}{p u:Int}(h:zco S p u=0):∃ k:Nat,p=k/\k<S.length/\(nd S k).u=true/\(nd S k).n=u:=by
 unfold zco at h;by_cases w:zeY S.length p=true
 ·rw[yd w] at h;have A:0<=p/\p<=(S.length:Int)-1:=of_decide_eq_true w;obtain⟨k,rfl⟩:∃ k:Nat,p=(k:Int):=⟨p.toNat,by omega⟩;rw[yg] at h;refine⟨k,rfl,by omega,?_⟩;unfold zoe at h
  split at h
  ·split at h
   ·split at h
    ·exact⟨by assumption,by assumption⟩
    ·omega
   ·omega
  ·omega
 ·rw[ya w] at h;omega
theorem zhr{S:List Nd}(h:WF S){k:Nat}(F:k<S.length)(hu:(nd S k).u=true):zlE S k (zan S k):=by
 have M:=h.deep_all F;have hn:=zdL h F (yi _) M;have hl:=zdc h F;obtain⟨r,hr,Z⟩:=zqq h F M
 have J:∀ x ∈ zan S k,∃ q:Nat,x=q/\q<S.length/\(nd S q).u=true:=fun x hx=>by
  obtain⟨q,e,hq,A,_⟩:=zcc h F M x hx;refine⟨q,e,hq,?_⟩;rcases A with rfl|A
  ·exact hu
  ·exact A
 have D:∀ i,i<(zan S k).length->0<i->(nd S ((zan S k).getD i 0).toNat).p ∈ (zan S k).take i:=fun i w h0=>by
  unfold zan at w |-;rw[hr] at w |-;obtain⟨i,rfl⟩:∃ j,i=j+1:=⟨i-1,by omega⟩;have:=Z.get (i:=i) (by simpa using w);simpa using this
 refine⟨by unfold zan;rw[hr];simp,by unfold zan;have:=h.small;omega,by unfold zan;rw[hr];simp,fun i w=>?_,fun q hq hp a4=>?_⟩
 ·obtain⟨q,e,hq,A⟩:=J ((zan S k).getD i 0) (by rw[zaf _ 0 w];exact List.getElem_mem w);refine⟨q,e,hq,A,fun I=>?_,fun h0=>?_⟩
  ·obtain⟨j,hj,V⟩:=List.getElem_of_mem I;rw[List.length_take] at hj;rw[List.getElem_take] at V;rw[zaf _ 0 w] at e;have O:j<(zan S k).length:=by omega
   have:=(List.getElem?_inj (i:=j) (j:=i) O hn).1 (by show (zan S k)[j]?=(zan S k)[i]?;rw[List.getElem?_eq_getElem (by omega),List.getElem?_eq_getElem w];exact congrArg some (V.trans e.symm));omega
  ·have:=D i w h0
   rwa [e,yg] at this
 ·obtain⟨y,hy⟩:∃ y:Nat,(nd S q).p=(y:Int):=⟨(nd S q).p.toNat,by omega⟩;rw[hy];by_cases I:(y:Int) ∈ zan S k
  ·have:=zqX h F M (y:Int) I (q:Int) (by rw[yg];exact(h.in_kids hq hy).2);rw[decide_eq_true I,decide_eq_true (show (q:Int) ∈ zan S k from this)]
  ·have:(q:Int) ∉ zan S k:=fun T=>by
    obtain⟨i,w,U⟩:=List.getElem_of_mem T
    have h0:0<i:=by
     rcases Nat.eq_zero_or_pos i with rfl|h0
     ·exfalso;have:(zan S k).getD 0 0=(k:Int):=by unfold zan;rw[hr];simp
      rw[zaf _ 0 w,U] at this;omega
     ·exact h0
    have:=D i w h0;rw[zaf _ 0 w,U,yg,hy] at this;exact I (List.mem_of_mem_take this)
   rw[decide_eq_false I,decide_eq_false this]
theorem ziK{W:World}{B:Nat}{v:Value}{p D x I q F:Int}(h:W.ownsRow B 39 2 v 3 ([.int .i64 p,.int .i64 D,.int .i64 x,.int .i64 I] ++ [.int .i64 q,.int .i64 F])):∃ M w,v=.slice M 3 w/\zam W M [(p,D),(x,I),(q,F)]:=by
 obtain⟨_,h⟩:=h;rcases h with ⟨_,h⟩ |⟨g,cap,A,rfl,_,hg,h1,V,Z,O⟩
 ·omega
 ·refine⟨_,_,rfl,fun i T=>?_⟩
  have w:∀ j u,([.int .i64 p,.int .i64 D,.int .i64 x,.int .i64 I,.int .i64 q,.int .i64 F]:List Value)[j]?=some u->j<6->W.cell? ⟨g,j,none⟩=some u:=fun j u U hl=>by
   have J:(A.toList.take (3*2))[j]?=some u:=by rw[O];simpa using U
   rw[List.getElem?_take,yd (by omega)] at J;simp only[World.cell?,hg];simpa using J
  match i,T with
  | 0,_=>exact⟨g,0,rfl,w 0 _ rfl (by omega),w 1 _ rfl (by omega)⟩
  | 1,_=>exact⟨g,0,rfl,w 2 _ rfl (by omega),w 3 _ rfl (by omega)⟩
  | 2,_=>exact⟨g,0,rfl,w 4 _ rfl (by omega),w 5 _ rfl (by omega)⟩
def SK:Nat->List Nd
 | 0=>List.replicate 6 zaL
 | k+1=>(SK k).set k (zbq (nd (SK k) k) k)
def S4:List Nd:=zaQ (SK 3) 0 1 0
def S5:List Nd:=zaQ S4 0 2 0
theorem zfQ(K:Nat)(I:Array Value)(p:Int->Bool)(a:Option Addr)(c:Nat)(ks:List Int)(w:World)(V:ks.length<=9223372036854775807)(F:zaj w a ks)
  (eg:∀ args w,(callFunc K args).run Tryz.prog w=.ok (.enter K args) w) (T:∀ x ∈ ks,∀ O,Below w.heap.size w O->Calls Tryz.prog K (#[.int .i64 x] ++ I) O fun e w2=>e=.returned (.bool (p x))/\Below O.heap.size O w2) :
  Calls Tryz.prog 121 #[.slice a ks.length c,.func (.func K) #[] I] w fun e w' => ∃ r:Int,e=.returned (.int .i64 r)/\Below w.heap.size w w' /\
   ((r = -1/\∀ i,i<ks.length->p (ks.getD i 0)=false)\/(∃ k:Nat,k<ks.length/\r=k/\p (ks.getD k 0)=true/\∀ i,i<k->p (ks.getD i 0)=false)):=by
 generalize hn:ks.length=n at *
 go_enter Tryz.func121,Tryz.ntmps121
 go_wp2
 go_loopg [8] n (fun g s8 wr=>∃ k:Nat,k<=n/\n-k<=g/\s8=.int .i64 k/\Below w.heap.size w wr/\Hid (∀ i,i<k->p (ks.getD i 0)=false))
 case atStart=>exact⟨0,by omega,by omega,rfl,yj _ _,fun i hi=>by omega⟩
 case round =>
  obtain⟨k,hk,hg,rfl,J,A⟩:=hrel;by_cases U:k<n
  ·obtain⟨b,o,rfl,Z⟩:=(F.below J) k (by omega);have D:=T (ks.getD k 0) (by rw[zaf ks 0 (by omega)];exact List.getElem_mem _) wr J;have KS:Hid (zaj w (some ⟨b,o,none⟩) ks):=F;clear F T;generalize hy:ks.getD k 0=y at Z D;have Y:Hid (ks.getD k 0=y):=hy;clear hy
   cases hq:p y with
   | true =>
    rw[hq] at D
    go_wp2_with (go_at_fn K;refine D.mono ?_;rintro e w' ⟨rfl,M⟩)
    go_ret;exact⟨k,rfl,J.trans (M.mono J.size),Or.inr ⟨k,U,rfl,by rw[Y.out];exact hq,A.out⟩⟩
   | false =>
    rw[hq] at D
    go_wp2_with (go_at_fn K;refine D.mono ?_;rintro e w' ⟨rfl,M⟩)
    go_roundg (n-(k+1))
    case measure=>omega
    case rel =>
     refine⟨k+1,by omega,by omega,by go_num,J.trans (M.mono J.size),(show Hid _ from fun i hi=>?_)⟩;by_cases e:i=k
     ·subst e;rw[Y.out];exact hq
     ·exact A.out i (by omega)
  ·have:k=n:=by omega
   subst this;clear F T
   go_wp2
   go_ret;exact⟨-1,rfl,J,Or.inl ⟨rfl,A.out⟩⟩
theorem zhP(K:Nat)(I:Array Value)(p:Int->Bool)(kb L cap:Nat)(ks:List Int)(G:Nat->Value)(w:World)(hL:ks.length=L)(hc:L<=cap)(e0:cap<=9223372036854775807)(hG:w.rowIs kb 3 cap G)(a6:∀ j,j<L->G j=.int .i64 (ks.getD j 0))
  (eg:∀ args w,(callFunc K args).run Tryz.prog w=.ok (.enter K args) w) (hT:∀ x ∈ ks,∀ U,Off (fun b=>b=kb) w U->Calls Tryz.prog K (#[.int .i64 x] ++ I) U fun e w2=>e=.returned (.bool (p x))/\Below U.heap.size U w2) :
  Calls Tryz.prog 125 #[.slice (some ⟨kb,0,none⟩) L cap,.func (.func K) #[] I] w (zjH w kb cap (flt p ks)):=by
 have di:=zfQ K I p (some ⟨kb,0,none⟩) cap ks w (by omega) (zbZ hG (by omega) (by rw[hL];exact a6)) eg (fun x hx U hb=>hT x hx U (Off.of_below hb));rw[hL] at di;have HG:Hid (w.rowIs kb 3 cap G):=hG;have a5:Hid _:=a6;have HT:Hid _:=hT;have M:Hid _:=hL;have b6:=hG.lt;clear hG a6 hT hL
 go_enter Tryz.func125,Tryz.ntmps125
 go_wp2_with fail
 refine di.mono ?_;rintro e U ⟨r,rfl,J,hr⟩;clear di;rcases hr with ⟨rfl,a4⟩ |⟨k,hk,rfl,hp,hf⟩
 ·have a9:=zhS p ks (by rw[M.out];exact a4);have E:Hid _:=a9;clear a4 a9
  go_wp2
  go_ret;refine⟨by rw[E.out,M.out];rfl,Off.of_below J,G,HG.out.of_block (J.block kb b6),fun j hj=>?_⟩;rw[E.out] at hj |-;exact a5.out j (by rw[<- M.out];exact hj)
 ·have d9:((k:Int) == -1)=false:=beq_eq_false_iff_ne.2 (by omega)
  have F0:Hid (flt p (ks.take (k+1))=ks.take k):=by
   show _=_;rw[zcY p ks k (by rw[M.out];exact hk),hp,yd rfl,List.append_nil];refine zhS p _ (fun i hi=>?_);rw[List.length_take] at hi;have b7:=M.out;have h1:=hf i (by omega);rw[zaf ks 0 (by omega)] at h1;rw[zaf (ks.take k) 0 (by rw[List.length_take];omega),List.getElem_take];exact h1
  have a8:Hid (U.rowIs kb 3 cap G):=HG.out.of_block (J.block kb b6)
  have FI:Hid (∀ t,t<k->G t=.int .i64 ((flt p (ks.take (k+1))).getD t 0)):=fun t O=>by
   have b7:=M.out;rw[F0.out,a5.out t (by omega),zaf ks 0 (by omega),zaf (ks.take k) 0 (by rw[List.length_take];omega),List.getElem_take]
  have FL:Hid ((flt p (ks.take (k+1))).length=k):=by
   have b7:=M.out;show _=_;rw[F0.out,List.length_take];omega
  have O1:Hid (Off (fun b=>b=kb) w U):=Off.of_below J;clear hp hf J
  go_wp2
  go_loopg [5,6] L (fun g1 s5 s6 wr=>∃ (i j:Nat) (G2:Nat->Value),i<j/\j<=L/\L-j<=g1/\s5=.int .i64 i/\s6=.int .i64 j/\Hid (Off (fun b=>b=kb) w wr)/\Hid (wr.rowIs kb 3 cap G2)/\Hid ((flt p (ks.take j)).length=i)/\Hid (∀ t,t<i->G2 t=.int .i64 ((flt p (ks.take j)).getD t 0))/\Hid (∀ t,j<=t->t<L->G2 t=.int .i64 (ks.getD t 0)))
  case atStart=>exact⟨k,k+1,G,by omega,by omega,by omega,rfl,by go_num,O1,a8,FL,FI,(show Hid _ from fun t _ O=>a5.out t O)⟩
  case round =>
   clear a8 FI FL O1;obtain⟨i,j,G2,d7,d8,c8,rfl,rfl,O2,Z,L2,I2,J2⟩:=hrel;have T:kb<wr.heap.size:=Z.out.lt;have b4:=Z.out.frozen;by_cases a7:j<L
   ·have b9:(j:Int)<(L:Int):=by omega
    have cj:=Z.out.cell (i:=j) (by omega);rw[J2.out j (yi _) a7] at cj;have ci:=Z.out.cell (i:=i) (by omega);have A:=HT.out (ks.getD j 0) (by rw[zaf ks 0 (by rw[M.out];exact a7)];exact List.getElem_mem _) wr O2.out;have V:=zcY p ks j (by rw[M.out];exact a7);generalize hy:ks.getD j 0=y at *;have HY:Hid _:=hy;clear hy
    cases hq:p y with
    | true =>
     rw[hq] at A V;rw[yd rfl,List.append_nil] at V;have F:Hid _:=V;clear V
     go_wp2_with (go_at_fn K;refine A.mono ?_;rintro e w2 ⟨rfl,D⟩)
     go_roundg (L-(j+1))
     case measure=>omega
     case rel=>exact⟨i,j+1,G2,by omega,by omega,by omega,rfl,by go_num,O2.out.trans (Off.of_below D),Z.out.of_block (D.block kb T),(show _=_ by rw[F.out];exact L2.out),(show Hid _ from fun t O=>by rw[F.out];exact I2.out t O),(show Hid _ from fun t h1 h2=>J2.out t (by omega) h2)⟩
    | false =>
     rw[hq] at A V;rw[ya (by simp)] at V;have F:Hid _:=V;clear V
     go_wp2_with (go_at_fn K;refine A.mono ?_;rintro e w2 ⟨rfl,D⟩;have c6:=(D.cell (by exact T)).trans ci;have b8:=fun o=>(D.frozen (by exact T)).trans (b4 o))
     go_roundg (L-(j+1))
     case measure=>omega
     case rel =>
      refine⟨i+1,j+1,_,by omega,by omega,by omega,by go_num,by go_num,(O2.out.trans (Off.of_below D)).trans (zaK (X:=fun b=>b=kb) _ rfl _),(Z.out.of_block (D.block kb T)).set i (.int .i64 y),(show _=_ by rw[F.out,List.length_append,L2.out];rfl),(show Hid _ from fun t O=>?_),(show Hid _ from fun t h1 h2=>?_)⟩
      ·rw[F.out];by_cases e:t=i
       ·subst e;rw[yd rfl];simp[List.getD,L2.out]
       ·rw[ya e,I2.out t (by omega)];simp[List.getD,List.getElem?_append,L2.out,show t<i by omega]
      ·rw[ya (by omega)];exact J2.out t (by omega) h2
   ·have b5:j=L:=by omega
    subst b5;have d6:(i:Int)<=(cap:Int):=by omega
    have c9:(i:Int)<=(j:Int):=by omega
    have EF:Hid (flt p (ks.take j)=flt p ks):=by
     show _=_;rw[<- M.out,List.take_length]
    have c7:∀ ty,(Builtin.clear_ #[29] ty #[.slice (some ⟨kb,i,none⟩) (j-i) (cap-i)]).run Tryz.prog wr=.ok (.tuple #[]) (wr.setCells kb i (List.replicate (j-i) (.int .i64 0))):=fun ty=>Lib.run_clear_slice wr 29 3 ty (.int .i64 0) Tryz.underlying29 Tryz.zeroValue3 rfl rfl kb i (j-i) (cap-i) (by omega) (fun t O=>by rw[Z.out.cell (by omega)];rfl) (fun t O=>b4 _)
    go_wp2
    go_ret;refine⟨?_,O2.out.trans (zbJ (X:=fun b=>b=kb) rfl _ _ _),_,zbK _ _ _ _ Z.out,fun t O=>?_⟩
    ·rw[<- EF.out,L2.out];rfl
    ·rw[<- EF.out,L2.out] at O;rw[ya (by omega),I2.out t O,EF.out]
theorem zgT(K:Nat)(A:Array Value)(w:World)(J:∀ args w,(callFunc K args).run Tryz.prog w=.ok (.enter K args) w) :
  Calls Tryz.prog 125 #[.slice none 0 0,.func (.func K) #[] A] w fun e w' => e=.returned (.slice none 0 0)/\Below w.heap.size w w' := by
 have I:=zfQ K A (fun _=>true) none 0 [] w (by simp) (fun i M=>absurd M (yr _)) J (fun x hx=>by cases hx)
 go_enter Tryz.func125,Tryz.ntmps125
 go_wp2_with fail
 refine I.mono ?_;rintro e T ⟨r,rfl,D,hr⟩
 have F:r = -1:=by
  rcases hr with ⟨h,_⟩ |⟨k,O,_⟩
  ·exact h
  ·exact absurd O (yr _)
 subst F;clear hr I
 go_wp2
 go_ret;exact⟨rfl,D⟩
end Go.Proofs.YtgjfmepbphfjoaaGreat
