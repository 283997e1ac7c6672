/-
  x
-/
import Derived.Test.YtcbcpomacdngmaaGreatA7
namespace Go.Proofs.YtcbcpomacdngmaaGreat
set_option maxRecDepth 100000
set_option maxHeartbeats 4000000
set_option linter.unusedVariables false
open Go.RowKit Tryz
variable{S A:List Nd}{D pa j i p at' B g f k E:Nat}{x y:Nd}{N c:Int}{ks:List Int}{w:Wd}
theorem QK{w1:Wd}{p:Addr}{v:Value}(h:w1.cell? p=some v)(D:Obj):(w1.alloc D).cell? p=some v :=
 (((yv _ _).alloc (yr _) D).cell (yi _ _ h)).trans h
theorem Cy(x c:Int)(b:Nat)(w:Wd)(hc:w.cell? ⟨b,0,none⟩=some (.int .i64 c)) :
  yO 198 #[.int .i64 x,.pointer (some ⟨b,0,none⟩)] w fun e w' => e=.returned (.bool (decide (x=c)))/\w' = w:=by
 by_cases h:x=c
 ·subst h
  go_enter func198,ntmps198
  go_wp2
  go_ret;exact⟨by simp,rfl⟩
 ·have hd:decide (x=c)=false:=yH h;have D:(x == c)=false:=beq_eq_false_iff_ne.2 h;rw[hd]
  go_enter func198,ntmps198
  go_wp2
  go_ret;refine⟨?_,rfl⟩
  first
   | rfl
   | simp[D]
def rE(S:List Nd)(pa D:Nat)(j:Nat):Nd :=
 if j=D then ⟨(nd S D).u,(nd S D).n,(nd S D).t,(nd S D).m,-1,(nd S D).ks,(nd S D).h,(nd S D).c⟩
 else if j=pa then ⟨(nd S pa).u,(nd S pa).n,(nd S pa).t,(nd S pa).m,(nd S pa).p,flt (fun x=>decide (x=(D:Int))) (nd S pa).ks,(nd S pa).h,(nd S pa).c⟩
 else nd S j
def eD(S:List Nd)(pa D:Nat):List Nd:=(List.range S.length).map (rE S pa D)
theorem rF(S:List Nd)(pa D:Nat):(eD S pa D).length=S.length:=by simp[eD]
theorem xC(S:List Nd)(pa D j:Nat)(E:j<S.length):nd (eD S pa D) j=rE S pa D j:=by
 rw[eQ (by rw[rF];exact E)];simp[eD]
theorem Cz{w2:Wd}{kb kc:Nat->Nat}(hO:Own w B g S kb kc S.length){W:Wd}(hb:Bl w W)(hpa:pa<S.length)(hch:D<S.length)(a8:pa≠D)
  (O:Off (fun b=>b=kb pa) W w2) {G:Nat->Value} (hG:w2.rowIs (kb pa) 3 (kc pa) G) (a5:∀ j,j<(flt (fun x=>decide (x=(D:Int))) (nd S pa).ks).length->G j=.int .i64 ((flt (fun x=>decide (x=(D:Int))) (nd S pa).ks).getD j 0)) :
  Own ((w2.setCell ⟨g,pa*8+5,none⟩ (.slice (some ⟨kb pa,0,none⟩) (flt (fun x=>decide (x=(D:Int))) (nd S pa).ks).length (kc pa))).setCell ⟨g,D*8+4,none⟩ (.int .i64 (-1))) B g (eD S pa D) kb kc (eD S pa D).length:=by
 obtain⟨hB,F,hF,hN,hg,hd⟩:=hO;have a7:=hF.lt;have hW:∀ b,b<w.heap.size->b≠kb pa->w2.heap[b]?=w.heap[b]?:=fun b h1 M=>(O.block b (yC h1 hb.size) M).trans (hb.block b h1);have a6:g≠kb pa:=by have:=hg pa hpa;omega
 have Z:=(((hF.of_block (hW g a7 a6)).set (pa*8+5) (.slice (some ⟨kb pa,0,none⟩) (flt (fun x=>decide (x=(D:Int))) (nd S pa).ks).length (kc pa))).set (D*8+4) (.int .i64 (-1)));rw[rF];refine⟨hB,_,by rw[rF];exact Z,fun j I=>?_,hg,hd⟩;rw[xC S pa D j I];obtain⟨e0,e1,e2,e3,e4,e5,e6,e7,U,J,G0,E,e9⟩:=hN j I;unfold rE;by_cases h1:j=D
 ·subst h1;rw[ye rfl];have T:=((E.of_block (hW (kb j) E.lt (fun e=>a8 (hd pa hpa j I e.symm)))).setOther (a:=⟨g,pa*8+5,none⟩) (by have:=hg j I;simp;omega) (.slice (some ⟨kb pa,0,none⟩) (flt (fun x=>decide (x=(j:Int))) (nd S pa).ks).length (kc pa))).setOther (a:=⟨g,j*8+4,none⟩) (by have:=hg j I;simp;omega) (.int .i64 (-1));refine⟨?_,?_,?_,?_,?_,?_,?_,?_,U,J,G0,T,e9⟩
  all_goals dsimp only
  ·rw[yd (by omega),yd (by omega),e0]
  ·rw[yd (by omega),yd (by omega),e1]
  ·rw[yd (by omega),yd (by omega),e2]
  ·rw[yd (by omega),yd (by omega),e3]
  ·rw[ye rfl]
  ·rw[yd (by omega),yd (by omega),e5]
  ·rw[yd (by omega),yd (by omega),e6]
  ·rw[yd (by omega),yd (by omega),e7]
 ·rw[yd h1];by_cases M:j=pa
  ·subst M;rw[ye rfl];have T:=(hG.setOther (a:=⟨g,j*8+5,none⟩) (by simp;omega) (.slice (some ⟨kb j,0,none⟩) (flt (fun x=>decide (x=(D:Int))) (nd S j).ks).length (kc j))).setOther (a:=⟨g,D*8+4,none⟩) (by simp;omega) (.int .i64 (-1));refine⟨?_,?_,?_,?_,?_,?_,?_,?_,yJ (IP _ _) U,J,G,T,a5⟩
   all_goals dsimp only
   ·rw[yd (by omega),yd (by omega),e0]
   ·rw[yd (by omega),yd (by omega),e1]
   ·rw[yd (by omega),yd (by omega),e2]
   ·rw[yd (by omega),yd (by omega),e3]
   ·rw[yd (by omega),yd (by omega),e4]
   ·rw[yd (by omega),ye rfl]
   ·rw[yd (by omega),yd (by omega),e6]
   ·rw[yd (by omega),yd (by omega),e7]
  ·rw[yd M];have T:=((E.of_block (hW (kb j) E.lt (fun e=>M (hd j I pa hpa e)))).setOther (a:=⟨g,pa*8+5,none⟩) (by have:=hg j I;simp;omega) (.slice (some ⟨kb pa,0,none⟩) (flt (fun x=>decide (x=(D:Int))) (nd S pa).ks).length (kc pa))).setOther (a:=⟨g,D*8+4,none⟩) (by have:=hg j I;simp;omega) (.int .i64 (-1));refine⟨?_,?_,?_,?_,?_,?_,?_,?_,U,J,G0,T,e9⟩
   all_goals
    dsimp only;rw[yd (by omega),yd (by omega)];assumption
theorem QL(B g c:Nat)(S:List Nd)(kb kc:Nat->Nat)(pa D:Nat)(w:Wd)(hO:Own w B g S kb kc S.length)(hpa:pa<S.length)(hch:D<S.length)(b3:pa≠D)(hp:(nd S D).p=pa) :
  yO 186 #[.slice (some ⟨g,0,none⟩) S.length c,.int .i64 D] w fun e w' => e=.returned (.tuple #[])/\Off (fun b=>b=g\/b=kb pa) w w' /\ Own w' B g (eD S pa D) kb kc (eD S pa D).length:=by
 have AF:Hid (∀ (W w2:Wd) (G' : Nat->Value),Bl w W->Off (fun b=>b=kb pa) W w2->w2.rowIs (kb pa) 3 (kc pa) G' ->(∀ j,j<(flt (fun x=>decide (x=(D:Int))) (nd S pa).ks).length->G' j=.int .i64 ((flt (fun x=>decide (x=(D:Int))) (nd S pa).ks).getD j 0))->Own ((w2.setCell ⟨g,pa*8+5,none⟩ (.slice (some ⟨kb pa,0,none⟩) (flt (fun x=>decide (x=(D:Int))) (nd S pa).ks).length (kc pa))).setCell ⟨g,D*8+4,none⟩ (.int .i64 (-1))) B g (eD S pa D) kb kc (eD S pa D).length):=fun W w2 G' h1 Z h3 h4=>Cz hO h1 hpa hch b3 Z h3 h4;obtain⟨hB,F,hF,O,hg,hd⟩:=hO;obtain⟨e0,e1,e2,e3,e4,e5,e6,e7,e8,a9,G,hG,e9⟩:=O pa hpa;obtain⟨f0,f1,f2,f3,f4,f5,f6,f7,f8,b0,G2,b1,f9⟩:=O D hch;have U:=hF.lt;have b2:=hF.frozen;have q5:w.cell? ⟨g,pa*8+5,none⟩=some (.slice (some ⟨kb pa,0,none⟩) (nd S pa).ks.length (kc pa)):=by rw[hF.cell (by omega),e5]
 have q4:w.cell? ⟨g,D*8+4,none⟩=some (.int .i64 (pa:Int)):=by rw[hF.cell (by omega),f4,hp]
 have b8:=hG.lt;have b7:=hg pa hpa
 have dd:Hid (∀ (W:Wd),Bl w W->W.cell? ⟨w.heap.size,0,none⟩=some (.int .i64 (D:Int))->yO 197 #[.slice (some ⟨kb pa,0,none⟩) (nd S pa).ks.length (kc pa),.func (.func 198) #[] #[.pointer (some ⟨w.heap.size,0,none⟩)]] W (IQ W (kb pa) (kc pa) (flt (fun x=>decide (x=(D:Int))) (nd S pa).ks))):=fun W hW I =>
  Cx 198 #[.pointer (some ⟨w.heap.size,0,none⟩)] (fun x=>decide (x=(D:Int))) (kb pa) (nd S pa).ks.length (kc pa) (nd S pa).ks G W rfl e8 (by omega) (hG.of_block (hW.block _ hG.lt)) e9 (yM func198 (by kernel_rfl) rfl)
   (fun x w1 E=>(Cy x (D:Int) w.heap.size w1 ((E.cell (yi _ _ I) (by show ¬ (w.heap.size=kb pa);omega)).trans I)).mono (fun e w3 h=>⟨h.1,by rw[h.2];exact yv _ _⟩))
 have b6:(pa:Int)<(S.length:Int):=by omega
 have b5:(D:Int)<(S.length:Int):=by omega
 have b9:((pa:Int) == -1)=false:=beq_eq_false_iff_ne.2 (by omega);clear e0 e1 e2 e3 e4 e5 e6 e7 e8 a9 hG e9 f0 f1 f2 f3 f4 f5 f6 f7 f8 b0 b1 f9 hF O hd hg hp;generalize (nd S pa).ks.length=L at *;generalize S.length=n at *;have Q5:=QK q5;have Q4:=QK q4
 have a6:Hid (∀ w2 o1,Off (fun b=>b=kb pa) (w.alloc o1) w2->w2.cell? ⟨g,pa*8+5,none⟩=some (.slice (some ⟨kb pa,0,none⟩) L (kc pa))/\(∀ v,(w2.setCell ⟨g,pa*8+5,none⟩ v).cell? ⟨g,D*8+4,none⟩=some (.int .i64 (pa:Int)))/\(∀ o,w2.frozen? ⟨g,o,none⟩=false)):=fun w2 o1 Z=>by
  have T:=(yv _ w).alloc (yr _) o1;refine⟨?_,fun v=>?_,fun o=>?_⟩
  ·exact((Z.cell (by simp;omega) (by simp;omega)).trans (T.cell (by exact U))).trans q5
  ·rw[World.cell?_setCell_other _ _ _ _ (by simp)];exact((Z.cell (by simp;omega) (by simp;omega)).trans (T.cell (by exact U))).trans q4
  ·exact((Z.frozen (by simp;omega) (by simp;omega)).trans (T.frozen (by exact U))).trans (b2 o)
 go_enter func186,ntmps186
 go_wp2_with (go_at_call 197;refine(dd _ ((yv _ _).alloc (yr _) _) (by go_simp)).mono ?_;rintro e w2 ⟨rfl,E,G', a5,M⟩;obtain⟨s5,s4,sf⟩:=a6.o w2 _ E;have b4:w2.cell? ⟨w.heap.size,0,none⟩=some (.int .i64 (D:Int)):=(E.cell (by simp) (by show ¬ (w.heap.size=kb pa);omega)).trans (by go_simp);have a7:Hid _:=a5;have a8:Hid _:=M;have J:Hid _:=E;clear a5 M E)
 refine bodyPost_end (v:=.tuple #[]) (by simp[results,results186,go_sem]) rfl ⟨rfl,?_,AF.o _ _ _ ((yv _ _).alloc (yr _) _) J.o a7.o a8.o⟩;have h1:Off (fun b=>b=g\/b=kb pa) w w2:=(Off.of_below ((yv _ _).alloc (yr _) _)).trans (J.mono (fun k _ h=>Or.inr h));exact(h1.trans (uA _ (Or.inl rfl) _)).trans (uA _ (Or.inl rfl) _)
def leaveG(S:List Nd)(D:Nat):List Nd:=if (nd S D).p = -1 then S else eD S (nd S D).p.toNat D
theorem oM(S:List Nd)(D:Nat):(leaveG S D).length=S.length:=by
 unfold leaveG;split
 ·rfl
 ·exact rF _ _ _
theorem Own.up{kb kc:Nat->Nat}(h:Own w B g S kb kc S.length)(w3:Wd)(D:∀ b,g<=b->w3.heap[b]?=w.heap[b]?):aD w3 (some ⟨g,0,none⟩) S:=by
 obtain⟨hB,F,hF,hN,hg,hd⟩:=h;refine Own.nds (B:=B) (kb:=kb) (kc:=kc) ⟨hB,F,hF.of_block (D g (yr _)),fun i hi=>?_,hg,hd⟩;obtain⟨I,J,M,O,T,U,Z,e7,e8,E,G,hG,e9⟩:=hN i hi;exact⟨I,J,M,O,T,U,Z,e7,e8,E,G,hG.of_block (D (kb i) (Nat.le_of_lt (hg i hi))),e9⟩
def AO(g n:Nat)(kb:Nat->Nat):Nat->Prop:=fun b=>b=g\/∃ i,i<n/\b=kb i
theorem Da(B g c:Nat)(S:List Nd)(kb kc:Nat->Nat)(D:Nat)(w:Wd)(M:Own w B g S kb kc S.length)(hch:D<S.length)(E:(nd S D).p = -1\/∃ pa:Nat,pa<S.length/\pa≠D/\(nd S D).p=pa) :
  yO 186 #[.slice (some ⟨g,0,none⟩) S.length c,.int .i64 D] w fun e w' => e=.returned (.tuple #[])/\Off (AO g S.length kb) w w' /\ Own w' B g (leaveG S D) kb kc (leaveG S D).length:=by
 rcases E with E |⟨pa,hpa,U,E⟩
 ·have hc:w.cell? ⟨g,D*8+4,none⟩=some (.int .i64 (-1)):=by
   obtain⟨_,F,hF,hN,_,_⟩:=M;obtain⟨_,_,_,_,Z,_⟩:=hN D hch;rw[hF.cell (by omega),Z,E]
  refine(Cv g c S.length D w hch hc).mono ?_;rintro e w' ⟨T,hb⟩;refine⟨T,Off.of_below hb,?_⟩;unfold leaveG;rw[ye E];exact M.below hb
 ·refine(QL B g c S kb kc pa D w M hpa hch U E).mono ?_;rintro e w' ⟨T,J,O⟩;refine⟨T,J.mono (fun k _ I=>?_),?_⟩
  ·rcases I with I|I
   ·exact Or.inl I
   ·exact Or.inr ⟨pa,hpa,I⟩
  ·unfold leaveG;rw[yd (by omega),E,yk];exact O
theorem WF.kid_deep(h:WF S)(M:p<S.length)(J:Deep S (f+1) p){x:Int}(D:x ∈ (nd S p).ks) :
  ∃ k:Nat,x=k/\k<S.length/\(nd S k).u=true/\(nd S k).p=p/\bA (nd S k)=p/\Deep S f k:=by
 obtain⟨k,rfl,h1,E,F,I⟩:=h.kid M D;have:=(J (k:Int) D).2;rw[yk] at this;exact⟨k,rfl,h1,E,F,I,this⟩
theorem qD(h:WF S):∀ {f p:Nat},p<S.length->Deep S f p->∀ x ∈ bZ S f p,∃ q:Nat,x=q/\q<S.length/\(q=p\/(nd S q).u=true)/\∃ j,j<=f/\Up S j q p
 | 0,p,E,_,x,D=>by
  have:x=(p:Int):=by simpa [bZ] using D
  exact⟨p,this,E,Or.inl rfl,0,yr _,rfl⟩
 | f+1,p,E,O,x,D=>by
  simp only[bZ,List.mem_cons,List.mem_flatMap] at D;rcases D with rfl |⟨k,T,D⟩
  ·exact⟨p,rfl,E,Or.inl rfl,0,by omega,rfl⟩
  ·obtain⟨k,rfl,h1,J,Z,M,h5⟩:=h.kid_deep E O T;rw[yk] at D;obtain⟨q,e,U,F,j,hj,I⟩:=qD h h1 h5 x D;refine⟨q,e,U,Or.inr ?_,j+1,by omega,I.trans (WF.up_one E M)⟩;rcases F with rfl|F
   ·exact J
   ·exact F
theorem IY{α β:Type}(g:α->List β):∀ (ks:List α),ks.Nodup->(∀ k ∈ ks,(g k).Nodup)->(∀ k ∈ ks,∀ k' ∈ ks,k≠k' -> ∀ x ∈ g k,x ∉ g k')->(ks.flatMap g).Nodup
 | [],_,_,_=>by simp
 | k :: ks,hn,hg,hd=>by
  rw[List.flatMap_cons,List.nodup_append];obtain⟨h1,F⟩:=List.nodup_cons.1 hn;refine⟨hg k (by simp),IY g ks F (fun k' D=>hg k' (by simp[D])) (fun a ha b hb=>hd a (by simp[ha]) b (by simp[hb])),fun x I y E e=>?_⟩;obtain⟨k', D,E⟩:=List.mem_flatMap.1 E;exact hd k (by simp) k' (by simp[D]) (fun e=>h1 (by rw[e];exact D)) x I (by rw[e];exact E)
theorem QS(S:List Nd)(j:Nat):∀ {k k' : Nat},k<=k' -> k' <= S.length->dP S k j<=dP S k' j:=by
 intro k k' D
 induction D with
 | refl=>intro _;exact yr _
 | step _ E =>
  intro h;rw[wJ S _ j (by omega)];have:=E (by omega);omega
theorem WF.kids_nodup(h:WF S)(hi:i<S.length):(nd S i).ks.Nodup:=by
 rw[List.nodup_iff_count];intro x;by_cases D:x ∈ (nd S i).ks
 ·obtain⟨k,rfl,E,_⟩:=h.kid hi D;have h1:=(h.kids.2 k E).1;have F:=wJ S i k hi;have I:=QS S k (k:=i+1) (k' := S.length) (by omega) (yr _);omega
 ·rw[List.count_eq_zero.2 D];omega
theorem WF.in_kids(h:WF S)(F:k<S.length){y:Nat}(M:(nd S k).p=y):y<S.length/\(k:Int) ∈ (nd S y).ks:=by
 have hc:=(h.kids.2 k F).2 (by omega);unfold dP at hc;rw[List.take_length] at hc
 have E:(k:Int) ∈ S.flatMap Nd.ks:=by
  by_cases E:(k:Int) ∈ S.flatMap Nd.ks
  ·exact E
  ·exact absurd (List.count_eq_zero.2 E) hc
 obtain⟨x,I,D⟩:=List.mem_flatMap.1 E;obtain⟨i,hi,rfl⟩:=List.getElem_of_mem I;rw[<- eQ hi] at D;obtain⟨k', e,_,_,J,_⟩:=h.kid hi D;have:k' = k:=by omega
 subst this;have:y=i:=by omega
 subst this;exact⟨hi,D⟩
theorem AX(h:WF S):∀ {f p:Nat},p<S.length->f<=S.length->Deep S f p->(bZ S f p).Nodup
 | 0,p,_,_,_=>by simp[bZ]
 | f+1,p,D,hf,T=>by
  simp only[bZ];rw[List.nodup_cons];refine⟨fun U=>?_,IY _ _ (h.kids_nodup D) (fun x J=>?_) (fun x J y hy a9 z hz M=>?_)⟩
  ·obtain⟨x,J,U⟩:=List.mem_flatMap.1 U;obtain⟨k,rfl,h1,h2,h3,O,h5⟩:=h.kid_deep D T J;rw[yk] at U;obtain⟨q,e,hq,_,j,hj,E⟩:=qD h h1 h5 _ U;have:q=p:=(by omega);subst this;exact h.no_ring D (j:=j+1) (by omega) (by omega) (E.trans (WF.up_one D O))
  ·obtain⟨k,rfl,h1,h2,h3,O,h5⟩:=h.kid_deep D T J;rw[yk];exact AX h h1 (by omega) h5
  ·obtain⟨k,rfl,h1,h2,h3,O,h5⟩:=h.kid_deep D T J;obtain⟨k', rfl,Z,b0,b1,a5,a6⟩:=h.kid_deep D T hy;rw[yk] at hz M;obtain⟨q,e,hq,_,j,hj,E⟩:=qD h h1 h5 _ hz;obtain⟨q', e', b3,_,F,b2,I⟩:=qD h Z a6 _ M;have:q=q' := by omega
   subst this;have u1:=E.trans (WF.up_one D O);have u2:=I.trans (WF.up_one D a5)
   have a7:j=F:=by
    rcases Nat.lt_trichotomy j F with a8|e|a8
    ·obtain⟨y,v1,v2⟩:=Up.split (i:=j+1) (j:=F-j) (by rw[show j+1+(F-j)=F+1 by omega];exact u2);have:=Up.det v1 u1;subst this;exact absurd v2 (h.no_ring D (by omega) (by omega))
    ·exact e
    ·obtain⟨y,v1,v2⟩:=Up.split (i:=F+1) (j:=j-F) (by rw[show F+1+(j-F)=j+1 by omega];exact u1);have:=Up.det v1 u2;subst this;exact absurd v2 (h.no_ring D (by omega) (by omega))
   subst a7;exact a9 (by rw[Up.det E I])
theorem uD(h:WF S)(D:p<S.length):(bZ S S.length p).length<=S.length:=by
 have h1:=AX h D (yr _) (h.deep_all D)
 have:=h1.length_le_of_subset (l₂:=(List.range S.length).map (fun i:Nat=>(i:Int))) (fun x F=>by
  obtain⟨q,rfl,E,_⟩:=qD h D (h.deep_all D) x F;exact List.mem_map.2 ⟨q,List.mem_range.2 E,rfl⟩)
 simpa using this
def Par(S:List Nd):List Int->List Int->Prop
 | _,[]=>True
 | seen,x :: r=>(nd S x.toNat).p ∈ seen/\Par S (seen++[x]) r
theorem Par.append:∀ {a b seen:List Int},Par S seen a->Par S (seen++a) b->Par S seen (a++b)
 | [],b,seen,_,hb=>by simpa using hb
 | x :: a,b,seen,⟨h1,D⟩,hb=>⟨h1,Par.append D (by simpa using hb)⟩
theorem Par.flat{p:Int}(g:Int->List Int):∀ (ks seen:List Int),p ∈ seen->(∀ k ∈ ks,∀ D,p ∈ D->Par S D (g k))->Par S seen (ks.flatMap g)
 | [],_,_,_=>trivial
 | k :: ks,seen,F,hg=>by
  rw[List.flatMap_cons];exact Par.append (hg k (by simp) seen F) (Par.flat g ks _ (by simp[F]) (fun k' E=>hg k' (by simp[E])))
theorem QU(h:WF S):∀ {f p:Nat} {seen:List Int},p<S.length->Deep S f p->(nd S p).p ∈ seen->Par S seen (bZ S f p)
 | 0,p,seen,_,_,D=>⟨by simpa using D,trivial⟩
 | f+1,p,seen,J,I,D=>by
  refine⟨by simpa using D,Par.flat (p:=(p:Int)) _ _ _ (by simp) (fun x M E hs=>?_)⟩;obtain⟨k,rfl,h1,O,F,T,h5⟩:=h.kid_deep J I M;rw[yk];exact QU h h1 h5 (by rw[F];exact hs)
theorem Dl(h:WF S)(I:p<S.length)(F:Deep S f p):∃ r,bZ S f p=(p:Int) :: r/\Par S [(p:Int)] r:=by
 cases f with
 | zero=>exact⟨[],rfl,trivial⟩
 | succ f =>
  refine⟨_,rfl,Par.flat (p:=(p:Int)) _ _ _ (by simp) (fun x J D hs=>?_)⟩;obtain⟨k,rfl,h1,M,E,O,h5⟩:=h.kid_deep I F J;rw[yk];exact QU h h1 h5 (by rw[E];exact hs)
theorem Par.get:∀ {r seen:List Int} {i:Nat},Par S seen r->i<r.length->(nd S (r.getD i 0).toNat).p ∈ seen++r.take i
 | x :: r,seen,0,⟨h1,_⟩,_=>by simpa using h1
 | x :: r,seen,i+1,⟨_,D⟩,hi=>by
  have:=Par.get D (i:=i) (by simpa using hi);simpa using this
theorem QV(h:WF S):∀ {f p:Nat},p<S.length->Deep S f p->∀ y ∈ bZ S f p,∀ k ∈ (nd S y.toNat).ks,k ∈ bZ S f p
 | 0,p,_,F,y,E,k,D=>by
  have:y=(p:Int):=by simpa [bZ] using E
  subst this;rw[yk,show (nd S p).ks=[] from F] at D;cases D
 | f+1,p,I,F,y,E,k,D=>by
  simp only[bZ,List.mem_cons,List.mem_flatMap] at E |-;right;rcases E with rfl |⟨x,J,E⟩
  ·rw[yk] at D;obtain⟨k', rfl,h1,M,O,T,h5⟩:=h.kid_deep I F D;refine⟨_,D,?_⟩;rw[yk]
   cases f <;> simp[bZ]
  ·obtain⟨k', rfl,h1,M,O,T,h5⟩:=h.kid_deep I F J;rw[yk] at E;refine⟨_,J,?_⟩;rw[yk];exact QV h h1 h5 y E k D
def bE(S:List Nd)(p:Nat):List Int:=bZ S S.length p
theorem AY(h:S.length<=j):nd S j=oJ:=by
 unfold nd;rw[List.getD_eq_getElem?_getD,List.getElem?_eq_none h];rfl
theorem rG(h1:iO x=true)(D:kV N x=true)(E:gV x=true):iP N x=0:=by
 unfold iP;rw[ye h1,ye D,ye E]
theorem xE(T:∀ i,i<S.length->(nd S i).ks.Nodup)(M:∀ i,i<S.length->∀ x ∈ (nd S i).ks,∃ j:Nat,x=j/\j<S.length/\(nd S j).u=true/\(nd S j).p=i)
  (U:∀ j,j<S.length->(nd S j).p≠-1->∃ i:Nat,i<S.length/\(j:Int) ∈ (nd S i).ks):lW S:=by
 refine⟨fun i hi x hx=>?_,fun j Z=>⟨?_,fun J=>?_⟩⟩
 ·obtain⟨j,rfl,h1,D,F⟩:=M i hi x hx;exact⟨by omega,by rw[yk];exact D,by rw[yk];exact F⟩
 ·have:∀ k,k<=S.length->dP S k j<=1/\(∀ i:Nat,(nd S j).p=i->k<=i->dP S k j=0):=by
   intro k
   induction k with
   | zero=>intro _;rw[PI];exact⟨by omega,fun _ _ _=>rfl⟩
   | succ k ih =>
    intro hk;obtain⟨h1,D⟩:=ih (by omega);rw[wJ S k j (by omega)];by_cases E:(j:Int) ∈ (nd S k).ks
    ·obtain⟨O,e,_,_,J⟩:=M k (by omega) _ E;have:O=j:=(by omega);subst this;have F:=D k J (yr _);have h4:=List.nodup_iff_count.1 (T k (by omega)) (O:Int);exact⟨by omega,fun i hi I=>by omega⟩
    ·rw[List.count_eq_zero.2 E];exact⟨by omega,fun i hi I=>by have:=D i hi (by omega);omega⟩
  exact(this S.length (yr _)).1
 ·obtain⟨i,hi,E⟩:=U j Z J;have h1:=wJ S i j hi;have D:=List.count_pos_iff.2 E;have F:=QS S j (k:=i+1) (k' := S.length) (by omega) (yr _);omega
theorem QW(D:Nat):∀ (f:Nat) (y:Int),eB S bA (tQ D) f y false=true->∃ (E:Nat) (j:Nat),y=E/\E<S.length/\j+1<=f/\Up S j E D
 | 0,_,h=>by simp[eB] at h
 | f+1,y,h=>by
  simp only[eB] at h;by_cases F:dZ S.length y=true
  ·have T:0<=y/\y<=(S.length:Int)-1:=of_decide_eq_true F;obtain⟨E,rfl⟩:∃ k:Nat,y=(k:Int):=⟨y.toNat,by omega⟩;rw[ye F] at h;simp only[tQ,yk] at h;by_cases e:(E:Int)=(D:Int)
   ·exact⟨E,0,rfl,by omega,by omega,by show E=D;omega⟩
   ·simp only[yH e,Bool.not_false,if_true] at h;obtain⟨z,j,M,I,O,J⟩:=QW D f _ h;exact⟨E,j+1,rfl,by omega,by omega,⟨z,I,M,J⟩⟩
  ·rw[yd F] at h;cases h
theorem uE{x:Nat}(J:x<S.length)(h:dF S x D=true):∃ j,1<=j/\j<=S.length/\Up S j x D:=by
 unfold dF at h;rw[ye (show dZ S.length (x:Int)=true from yI ⟨by omega,by omega⟩),yk] at h;obtain⟨y,j,e,F,I,E⟩:=QW D _ _ h;exact⟨j+1,by omega,by omega,⟨y,F,e,E⟩⟩
theorem QX{x:Nat}(F:x<S.length)(h1:1<=j)(E:j<=S.length)(h:Up S j x D):dF S x D=true:=by
 obtain⟨j,rfl⟩:∃ i,j=i+1:=⟨j-1,by omega⟩;unfold dF;rw[ye (show dZ S.length (x:Int)=true from yI ⟨by omega,by omega⟩),yk,IV false h E]
theorem WF.up_short'(h:WF S):∀ (j x z:Nat) (r:List Nat),x<S.length->(x :: r).Nodup->(∀ y ∈ r,y<S.length/\∃ i,1<=i/\i<=r.length/\Up S i y x)->Up S j x z->j+r.length+1<=S.length
 | 0,x,z,r,M,hn,J,_=>by
  have:=AQ hn (fun y E=>by
   rcases List.mem_cons.1 E with rfl|E
   ·exact M
   ·exact(J y E).1)
  simp at this;omega
 | j+1,x,z,r,M,hn,J,⟨y,h1,T,h3⟩=>by
  have D:∀ y ∈ x :: r,y<S.length:=fun y E=>by
   rcases List.mem_cons.1 E with rfl|E
   ·exact M
   ·exact(J y E).1
  have hlen:=AQ hn D;simp at hlen
  have I:∀ q ∈ x :: r,∃ i,1<=i/\i<=(x :: r).length/\Up S i q y:=fun q F=>by
   rcases List.mem_cons.1 F with rfl|F
   ·exact⟨1,by omega,by simp,WF.up_one h1 T⟩
   ·obtain⟨_,i,U,Z,O⟩:=J q F;exact⟨i+1,by omega,by simp;omega,O.trans (WF.up_one h1 T)⟩
  have:=h.up_short' j y z (x :: r) h1 (List.nodup_cons.2 ⟨fun hm=>by
   obtain⟨i,U,Z,O⟩:=I y hm;simp at Z;exact h.no_ring h1 U (by omega) O,hn⟩) (fun q F=>⟨D q F,I q F⟩) h3
  simp at this;omega
theorem WF.up_short(h:WF S){x z:Nat}(E:x<S.length)(D:Up S j x z):j+1<=S.length:=by
 have:=h.up_short' j x z [] E (by simp) (fun y F=>by cases F) D;simpa using this
theorem xF(hl:A.length=S.length)(I:∀ y,y<S.length->y≠D->bA (nd A y)=bA (nd S y)):∀ {j x y:Nat},x<S.length->Up A j x y->Up S j x y\/∃ i m,i+m=j/\Up S i x D/\Up A m D y
 | 0,_,_,_,h=>Or.inl h
 | j+1,x,y,M,⟨z,h1,E,F⟩=>by
  by_cases e:x=D
  ·subst e;exact Or.inr ⟨0,j+1,by omega,rfl,⟨z,h1,E,F⟩⟩
  ·rw[I x M e] at E;rw[hl] at h1;rcases xF hl I h1 F with h |⟨i,m,hi,h,J⟩
   ·exact Or.inl ⟨z,h1,E,h⟩
   ·exact Or.inr ⟨i+1,m,by omega,⟨z,h1,E,h⟩,J⟩
theorem AZ(hl:A.length=S.length)(D:∀ y,y<S.length->∀ z:Nat,bA (nd A y)=z->bA (nd S y)=z):∀ {j x y:Nat},x<S.length->Up A j x y->Up S j x y
 | 0,_,_,_,h=>h
 | _+1,x,_,I,⟨z,h1,E,F⟩=>⟨z,by omega,D x I z E,AZ hl D (by omega) F⟩
theorem WF.used_of_kid(h:WF S)(hi:i<S.length){x:Int}(E:x ∈ (nd S i).ks):(nd S i).u=true:=by
 have D:=(jY (h.node i hi)).2.2
 cases hu:(nd S i).u with
 | true=>rfl
 | false =>
  unfold gV at D;rw[hu] at D;have:=(of_decide_eq_true D).2.2.2.1;rw[this] at E;cases E
theorem WF.host_of_parent(h:WF S)(hch:E<S.length)(F:(nd S E).p≠-1):(nd S E).h = -1/\(nd S E).u=true:=by
 have D:=(jY (h.node E hch)).2.2;unfold gV at D
 split at D
 ·rename_i I
  split at D
  ·cases D
  ·split at D
   ·rename_i hh;exact⟨hh,I⟩
   ·exact absurd (of_decide_eq_true D) F
 ·exact absurd (of_decide_eq_true D).2.2.1 F
theorem WF.parent_place(h:WF S)(hch:D<S.length)(J:(nd S D).p≠-1):∃ pa:Nat,(nd S D).p=pa/\pa<S.length/\pa≠D/\(D:Int) ∈ (nd S pa).ks/\(nd S pa).u=true:=by
 have h1:=(wU (wT (h.node D hch))).2.2;obtain⟨pa,e⟩:∃ k:Nat,(nd S D).p=(k:Int):=⟨(nd S D).p.toNat,by omega⟩;obtain⟨E,F⟩:=h.in_kids hch e;refine⟨pa,e,E,fun I=>?_,F,h.used_of_kid E F⟩;subst I
 have M:bA (nd S pa)=pa:=by
  unfold bA;rw[ye (h.host_of_parent hch J).1];exact e
 exact h.no_ring hch (yr 1) (by omega) (WF.up_one hch M)
theorem rJ(S:List Nd)(pa D j:Nat):(nd (eD S pa D) j).u=(nd S j).u/\(nd (eD S pa D) j).n=(nd S j).n/\(nd (eD S pa D) j).h=(nd S j).h/\(nd (eD S pa D) j).t=(nd S j).t/\(nd (eD S pa D) j).m=(nd S j).m/\(nd (eD S pa D) j).c=(nd S j).c:=by
 by_cases E:j<S.length
 ·rw[xC S pa D j E];unfold rE;split
  ·rename_i e;subst e;exact⟨rfl,rfl,rfl,rfl,rfl,rfl⟩
  ·split
   ·rename_i e;subst e;exact⟨rfl,rfl,rfl,rfl,rfl,rfl⟩
   ·exact⟨rfl,rfl,rfl,rfl,rfl,rfl⟩
 ·rw[AY (S:=eD S pa D) (by rw[rF];omega),AY (by omega)];exact⟨rfl,rfl,rfl,rfl,rfl,rfl⟩
theorem uF(S:List Nd)(E:j<S.length):(nd (eD S pa D) j).p=if j=D then -1 else (nd S j).p:=by
 rw[xC S pa D j E];unfold rE;split
 ·rfl
 ·split
  ·rename_i e;subst e;rfl
  ·rfl
theorem IZ(S:List Nd)(E:pa≠D)(F:j<S.length):(nd (eD S pa D) j).ks=if j=pa then flt (fun x=>decide (x=(D:Int))) (nd S pa).ks else (nd S j).ks:=by
 rw[xC S pa D j F];unfold rE;split
 ·rename_i e;subst e;rw[yd (fun e=>E e.symm)]
 ·split
  ·rfl
  ·rfl
theorem QY(h1:x.n=y.n)(D:x.t=y.t)(E:x.m=y.m)(h:iO y=true):iO x=true:=by
 unfold iO at *;rw[h1,D,E];exact h
theorem BA(h:kV N x=true):fA N x.p=true/\fA N x.h=true/\∀ k ∈ x.ks,fA N k=true:=by
 unfold kV at h;simp only[Bool.and_eq_true,Bool.not_eq_true', List.any_eq_false] at h;refine⟨h.1,h.2.1,fun k D=>?_⟩;have:=h.2.2 k D;simpa using this
theorem rM(h1:fA N x.p=true)(D:fA N x.h=true)(E:∀ k ∈ x.ks,fA N k=true):kV N x=true:=by
 unfold kV;simp only[Bool.and_eq_true,Bool.not_eq_true', List.any_eq_false];refine⟨h1,D,fun k F=>?_⟩;rw[E k F];simp
theorem BC(D:y.u=true)(h1:x.u=y.u)(E:x.n=y.n)(F:x.h=y.h)(I:x.c=y.c)(h5:y.h≠-1->x.p=y.p)(h:gV y=true):gV x=true:=by
 unfold gV at *;rw[h1,D,E,F,I];rw[D] at h;simp only[if_true] at *
 split at h
 ·cases h
 ·rename_i hn;rw[yd hn]
  split at h
  ·rename_i hh;rw[ye hh];exact h
  ·rename_i hh;rw[yd hh,h5 hh];exact h
theorem BD{p:Int->Bool}{x:Int}:x ∈ flt p ks↔x ∈ ks/\p x=false:=by
 unfold flt;rw[List.mem_filter]
 cases p x <;> simp
theorem WF.leave(h:WF S)(hch:E<S.length)(hp:(nd S E).p=pa):WF (eD S pa E):=by
 obtain⟨D,e,hpa,O,a6,hpu⟩:=h.parent_place hch (by omega);have:D=pa:=by omega
 subst this;obtain⟨J,hcu⟩:=h.host_of_parent hch (by omega);have hl:=rF S D E
 have M:∀ i,i<S.length->∀ x ∈ (nd (eD S D E) i).ks,x ∈ (nd S i).ks/\x≠(E:Int):=fun i hi x T=>by
  rw[IZ S O hi] at T
  split at T
  ·rename_i F;subst F;obtain⟨h1,h2⟩:=BD.1 T;exact⟨h1,of_decide_eq_false h2⟩
  ·rename_i F;refine⟨T,fun U=>?_⟩;obtain⟨k,e3,_,_,hk,_⟩:=h.kid hi T;have:k=E:=(by omega);subst this;omega
 refine⟨by rw[hl];exact h.small,fun i hi=>?_,xE (fun i hi=>?_) (fun i hi x T=>?_) (fun j hj I=>?_),fun i hi=>?_,fun i hi=>?_⟩
 ·rw[hl] at hi |-;obtain⟨r1,r2,r3⟩:=jY (h.node i hi);obtain⟨n1,n2,n3⟩:=BA r2;obtain⟨u1,u2,u3,u4,u5,u6⟩:=rJ S D E i;refine rG (QY u2 u4 u5 r1) (rM ?_ (by rw[u3];exact n2) (fun k hk=>n3 k (M i hi k hk).1)) ?_
  ·rw[uF S hi];split
   ·exact yI ⟨by omega,by omega⟩
   ·exact n1
  ·by_cases F:i=E
   ·subst F;exact BC hcu u1 u2 u3 u6 (fun hh=>absurd J hh) r3
   ·by_cases U:i=D
    ·subst U;exact BC hpu u1 u2 u3 u6 (fun _=>by rw[uF S hi,yd F]) r3
    ·rw[xC S D E i hi];unfold rE;rw[yd F,yd U];exact r3
 ·rw[hl] at hi;rw[IZ S O hi];split
  ·exact(h.kids_nodup hpa).filter _
  ·exact h.kids_nodup hi
 ·rw[hl] at hi |-;obtain⟨h1,h2⟩:=M i hi x T;obtain⟨k,rfl,k1,k2,k3,_⟩:=h.kid hi h1;refine⟨k,rfl,k1,by rw[(rJ S D E k).1];exact k2,?_⟩;rw[uF S k1,yd (by omega)];exact k3
 ·rw[hl] at hj |-;rw[uF S hj] at I
  split at I
  ·exact absurd rfl I
  ·rename_i F;obtain⟨i,i1,i2,_,i3,_⟩:=h.parent_place hj I;refine⟨i,i2,?_⟩;rw[IZ S O i2];split
   ·rename_i U;subst U;exact BD.2 ⟨i3,yH (by omega)⟩
   ·exact i3
 ·rw[hl] at hi;intro hh;rw[(rJ S D E i).2.2.1] at hh |-;obtain⟨g1,g2⟩:=h.hosts i hi hh;refine⟨by rw[(rJ S D E _).1];exact g1,fun i' a5=>by rw[(rJ S D E i').2.2.1];exact g2 i' a5⟩
 ·rw[hl] at hi
  cases hb:dF (eD S D E) i i with
  | false=>rfl
  | true =>
   obtain⟨j,j1,j2,j3⟩:=uE (by rw[hl];exact hi) hb;rw[hl] at j2;refine absurd (AZ hl (fun y hy z Z=>?_) hi j3) (h.no_ring hi j1 j2);unfold bA at *;rw[(rJ S D E y).2.2.1,uF S hy] at Z;by_cases F:y=E
   ·subst F;rw[ye J,ye rfl] at Z;omega
   ·rw[yd F] at Z;exact Z
theorem oN(S:List Nd)(pa D at' j:Nat):(nd (dD S pa D at') j).u=(nd S j).u/\(nd (dD S pa D at') j).n=(nd S j).n/\(nd (dD S pa D at') j).h=(nd S j).h/\(nd (dD S pa D at') j).t=(nd S j).t/\(nd (dD S pa D at') j).m=(nd S j).m/\(nd (dD S pa D at') j).c=(nd S j).c:=by
 by_cases E:j<S.length
 ·rw[xA S pa D at' j E];unfold rD;split
  ·rename_i e;subst e;exact⟨rfl,rfl,rfl,rfl,rfl,rfl⟩
  ·split
   ·rename_i e;subst e;exact⟨rfl,rfl,rfl,rfl,rfl,rfl⟩
   ·exact⟨rfl,rfl,rfl,rfl,rfl,rfl⟩
 ·rw[AY (S:=dD S pa D at') (by rw[qC];omega),AY (by omega)];exact⟨rfl,rfl,rfl,rfl,rfl,rfl⟩
theorem rO(S:List Nd)(E:j<S.length):(nd (dD S pa D at') j).p=if j=D then (pa:Int) else (nd S j).p:=by
 rw[xA S pa D at' j E];unfold rD;split
 ·rfl
 ·split
  ·rename_i e;subst e;rfl
  ·rfl
theorem xG(S:List Nd)(E:pa≠D)(F:j<S.length):(nd (dD S pa D at') j).ks=if j=pa then ins (nd S pa).ks at' D else (nd S j).ks:=by
 rw[xA S pa D at' j F];unfold rD;split
 ·rename_i e;subst e;rw[yd (fun e=>E e.symm)]
 ·split
  ·rfl
  ·rfl
theorem BH{x:Int}:x ∈ ins ks i c↔x=c\/x ∈ ks:=by
 unfold ins
 have D:x ∈ ks↔x ∈ ks.take i\/x ∈ ks.drop i:=by
  rw[<- List.mem_append,List.take_append_drop]
 rw[List.mem_append,List.mem_cons,D];constructor
 ·rintro(h|h|h)
  ·exact Or.inr (Or.inl h)
  ·exact Or.inl h
  ·exact Or.inr (Or.inr h)
 ·rintro(h|h|h)
  ·exact Or.inr (Or.inl h)
  ·exact Or.inl h
  ·exact Or.inr (Or.inr h)
theorem Dm(h:ks.Nodup)(hc:c ∉ ks):(ins ks i c).Nodup:=by
 unfold ins;have D:(ks.take i++ks.drop i).Nodup:=by rw[List.take_append_drop];exact h
 rw[List.nodup_append] at D |-;obtain⟨E,F,h5⟩:=D;refine⟨E,List.nodup_cons.2 ⟨fun I=>hc (List.mem_of_mem_drop I),F⟩,fun a ha b hb e=>?_⟩;rcases List.mem_cons.1 hb with rfl|hb
 ·rw[e] at ha;exact hc (List.mem_of_mem_take ha)
 ·exact h5 a ha b hb e
theorem WF.not_kid(h:WF S)(I:(nd S D).p = -1)(hi:i<S.length):(D:Int) ∉ (nd S i).ks:=fun E=>by
 obtain⟨k,e,_,_,F,_⟩:=h.kid hi E;have:k=D:=by omega
 subst this;omega
theorem WF.enter(h:WF S)(hpa:pa<S.length)(hch:D<S.length)(hpu:(nd S pa).u=true)(hcu:(nd S D).u=true)(a5:(nd S D).p = -1)(T:(nd S D).h = -1)(E:pa≠D)(a7:dF S pa D=false):WF (dD S pa D at'):=by
 have hl:=qC S pa D at';have U:∀ i,i<S.length->(D:Int) ∉ (nd S i).ks:=fun i hi=>h.not_kid a5 hi;refine⟨by rw[hl];exact h.small,fun i hi=>?_,xE (fun i hi=>?_) (fun i hi x O=>?_) (fun j hj I=>?_),fun i hi=>?_,fun i hi=>?_⟩
 ·rw[hl] at hi |-;obtain⟨r1,r2,r3⟩:=jY (h.node i hi);obtain⟨n1,n2,n3⟩:=BA r2;obtain⟨u1,u2,u3,u4,u5,u6⟩:=oN S pa D at' i;refine rG (QY u2 u4 u5 r1) (rM ?_ (by rw[u3];exact n2) (fun k M=>?_)) ?_
  ·rw[rO S hi];split
   ·exact yI ⟨by omega,by omega⟩
   ·exact n1
  ·rw[xG S E hi] at M
   split at M
   ·rename_i F;subst F;rcases BH.1 M with rfl|M
    ·exact yI ⟨by omega,by omega⟩
    ·exact n3 k M
   ·exact n3 k M
  ·by_cases F:i=D
   ·subst F;exact BC hcu u1 u2 u3 u6 (fun hh=>absurd T hh) r3
   ·by_cases J:i=pa
    ·subst J;exact BC hpu u1 u2 u3 u6 (fun _=>by rw[rO S hi,yd F]) r3
    ·rw[xA S pa D at' i hi];unfold rD;rw[yd F,yd J];exact r3
 ·rw[hl] at hi;rw[xG S E hi];split
  ·exact Dm (h.kids_nodup hpa) (U pa hpa)
  ·exact h.kids_nodup hi
 ·rw[hl] at hi |-
  have hold:x ∈ (nd S i).ks->∃ j:Nat,x=j/\j<S.length/\(nd (dD S pa D at') j).u=true/\(nd (dD S pa D at') j).p=i:=fun hm=>by
   obtain⟨k,rfl,k1,k2,k3,_⟩:=h.kid hi hm;refine⟨k,rfl,k1,by rw[(oN S pa D at' k).1];exact k2,?_⟩;rw[rO S k1,yd (fun e=>U i hi (by rw[<- e];exact hm))];exact k3
  rw[xG S E hi] at O
  split at O
  ·rename_i F;subst F;rcases BH.1 O with rfl|O
   ·exact⟨D,rfl,hch,by rw[(oN S i D at' D).1];exact hcu,by rw[rO S hch,ye rfl]⟩
   ·exact hold O
  ·exact hold O
 ·rw[hl] at hj |-;rw[rO S hj] at I
  split at I
  ·rename_i F;subst F;exact⟨pa,hpa,by rw[xG S E hpa,ye rfl];exact BH.2 (Or.inl rfl)⟩
  ·obtain⟨i,i1,i2,_,i3,_⟩:=h.parent_place hj I;refine⟨i,i2,?_⟩;rw[xG S E i2];split
   ·rename_i J;subst J;exact BH.2 (Or.inr i3)
   ·exact i3
 ·rw[hl] at hi;intro hh;rw[(oN S pa D at' i).2.2.1] at hh |-;obtain⟨g1,g2⟩:=h.hosts i hi hh;refine⟨by rw[(oN S pa D at' _).1];exact g1,fun i' a6=>by rw[(oN S pa D at' i').2.2.1];exact g2 i' a6⟩
 ·rw[hl] at hi
  have hr:∀ y,y<S.length->y≠D->bA (nd (dD S pa D at') y)=bA (nd S y):=fun y hy e=>by
   unfold bA;rw[(oN S pa D at' y).2.2.1,rO S hy,yd e]
  have a8:bA (nd (dD S pa D at') D)=pa:=by
   unfold bA;rw[(oN S pa D at' D).2.2.1,ye T,rO S hch,ye rfl]
  have Z:∀ q,¬ Up S q pa D:=fun q hq=>by
   cases q with
   | zero=>exact E hq
   | succ q =>
    have:=QX hpa (by omega) (by have:=h.up_short hpa hq;omega) hq;rw[a7] at this;cases this
  cases hb:dF (dD S pa D at') i i with
  | false=>rfl
  | true =>
   obtain⟨j,j1,j2,j3⟩:=uE (by rw[hl];exact hi) hb;rw[hl] at j2;rcases xF hl hr hi j3 with g |⟨k,m,e,g1,g2⟩
   ·exact absurd g (h.no_ring hi j1 j2)
   ·cases m with
    | zero =>
     have J:D=i:=g2;have e3:k=j:=(by omega);rw[J,e3] at g1;exact absurd g1 (h.no_ring hi j1 j2)
    | succ m =>
     obtain⟨z,z1,z2,z3⟩:=g2;have:z=pa:=(by omega);subst this;rcases xF hl hr hpa z3 with g |⟨k', m', _,g3,_⟩
     ·exact absurd (g.trans g1) (Z _)
     ·exact absurd g3 (Z _)
structure Dn (S:List Nd) (k:Nat) (l:List Int):Prop where
 pos:0<l.length
 small:l.length<=24
 head:l.getD 0 0=k
 each:∀ i,i<l.length->∃ q:Nat,l.getD i 0=q/\q<S.length/\(nd S q).u=true/\(q:Int) ∉ l.take i/\(0<i->(nd S q).p ∈ l.take i)
 closed:∀ q:Nat,q<S.length->0<=(nd S q).p->q≠k->decide ((nd S q).p ∈ l)=decide ((q:Int) ∈ l)
theorem Dp(S:List Nd)(p u:Int):mP S [(p,u)]=iX S p u:=by
 simp only[mP];by_cases h:iX S p u=0
 ·rw[ye h,h]
 ·rw[yd h]
theorem holds_zero{p u:Int}(h:iX S p u=0):∃ k:Nat,p=k/\k<S.length/\(nd S k).u=true/\(nd S k).n=u:=by
 unfold iX at h;by_cases D:dZ S.length p=true
 ·rw[ye D] at h;have E:0<=p/\p<=(S.length:Int)-1:=of_decide_eq_true D;obtain⟨k,rfl⟩:∃ k:Nat,p=(k:Int):=⟨p.toNat,by omega⟩;rw[yk] at h;refine⟨k,rfl,by omega,?_⟩;unfold wV at h
  split at h
  ·split at h
   ·split at h
    ·exact⟨by assumption,by assumption⟩
    ·omega
   ·omega
  ·omega
 ·rw[yd D] at h;omega
theorem Dq(h:WF S)(F:k<S.length)(hu:(nd S k).u=true):Dn S k (bE S k):=by
 have O:=h.deep_all F;have hn:=AX h F (yr _) O;have hl:=uD h F;obtain⟨r,T,hP⟩:=Dl h F O
 have J:∀ x ∈ bE S k,∃ q:Nat,x=q/\q<S.length/\(nd S q).u=true:=fun x hx=>by
  obtain⟨q,e,M,D,_⟩:=qD h F O x hx;refine⟨q,e,M,?_⟩;rcases D with rfl|D
  ·exact hu
  ·exact D
 have E:∀ i,i<(bE S k).length->0<i->(nd S ((bE S k).getD i 0).toNat).p ∈ (bE S k).take i:=fun i hi h0=>by
  unfold bE at hi |-;rw[T] at hi |-;obtain⟨i,rfl⟩:∃ j,i=j+1:=⟨i-1,by omega⟩;have:=hP.get (i:=i) (by simpa using hi);simpa using this
 refine⟨by unfold bE;rw[T];simp,by unfold bE;have:=h.small;omega,by unfold bE;rw[T];simp,fun i hi=>?_,fun q M hp a5=>?_⟩
 ·obtain⟨q,e,M,D⟩:=J ((bE S k).getD i 0) (by rw[aJ _ 0 hi];exact List.getElem_mem hi);refine⟨q,e,M,D,fun I=>?_,fun h0=>?_⟩
  ·obtain⟨j,hj,ej⟩:=List.getElem_of_mem I;rw[List.length_take] at hj;rw[List.getElem_take] at ej;rw[aJ _ 0 hi] at e;have U:j<(bE S k).length:=(by omega);have:=(List.getElem?_inj (i:=j) (j:=i) U hn).1 (by show (bE S k)[j]?=(bE S k)[i]?;rw[List.getElem?_eq_getElem (by omega),List.getElem?_eq_getElem hi];exact congrArg some (ej.trans e.symm));omega
  ·have:=E i hi h0
   rwa [e,yk] at this
 ·obtain⟨y,hy⟩:∃ y:Nat,(nd S q).p=(y:Int):=⟨(nd S q).p.toNat,by omega⟩;rw[hy];by_cases I:(y:Int) ∈ bE S k
  ·have:=QV h F O (y:Int) I (q:Int) (by rw[yk];exact(h.in_kids M hy).2);rw[yI I,yI (show (q:Int) ∈ bE S k from this)]
  ·have:(q:Int) ∉ bE S k:=fun Z=>by
    obtain⟨i,hi,ei⟩:=List.getElem_of_mem Z
    have h0:0<i:=by
     rcases Nat.eq_zero_or_pos i with rfl|h0
     ·exfalso;have:(bE S k).getD 0 0=(k:Int):=(by unfold bE;rw[T];simp);rw[aJ _ 0 hi,ei] at this;omega
     ·exact h0
    have:=E i hi h0;rw[aJ _ 0 hi,ei,yk,hy] at this;exact I (List.mem_of_mem_take this)
   rw[yH I,yH this]
theorem RO(K:Nat)(F:Array Value)(p:Int->Bool)(a:OA)(c:Nat)(ks:List Int)(w:Wd)(O:ks.length<=9223372036854775807)(E:aG w a ks)
  (Z:∀ args w,(callFunc K args).run prog w=.ok (.enter K args) w) (J:∀ x ∈ ks,∀ w1,Bl w w1->yO K (#[.int .i64 x] ++ F) w1 fun e w2=>e=.returned (.bool (p x))/\Below w1.heap.size w1 w2) :
  yO 153 #[.slice a ks.length c,.func (.func K) #[] F] w fun e w' => ∃ r:Int,e=.returned (.int .i64 r)/\Below w.heap.size w w' /\
   ((r = -1/\∀ i,i<ks.length->p (ks.getD i 0)=false)\/(∃ k:Nat,k<ks.length/\r=k/\p (ks.getD k 0)=true/\∀ i,i<k->p (ks.getD i 0)=false)):=by
 generalize hn:ks.length=n at *
 go_enter func153,ntmps153
 go_wp2
 go_loopg [8] n (fun g s8 wr=>∃ k:Nat,k<=n/\n-k<=g/\s8=.int .i64 k/\Below w.heap.size w wr/\Hid (∀ i,i<k->p (ks.getD i 0)=false))
 case atStart=>exact⟨0,by omega,by omega,rfl,yv _ _,fun i hi=>by omega⟩
 case round =>
  obtain⟨k,hk,hg,rfl,hb,A⟩:=hrel;by_cases M:k<n
  ·obtain⟨b,o,rfl,hc⟩:=(E.below hb) k (by omega);have D:=J (ks.getD k 0) (by rw[aJ ks 0 (by omega)];exact List.getElem_mem _) wr hb;have U:Hid (aG w (some ⟨b,o,none⟩) ks):=E;clear E J;generalize T:ks.getD k 0=y at hc D;have Y:Hid (ks.getD k 0=y):=T;clear T
   cases hq:p y with
   | true =>
    rw[hq] at D
    go_wp2_with (go_at_fn K;refine D.mono ?_;rintro e w' ⟨rfl,I⟩)
    go_ret;exact⟨k,rfl,hb.trans (I.mono hb.size),Or.inr ⟨k,M,rfl,by rw[Y.o];exact hq,A.o⟩⟩
   | false =>
    rw[hq] at D
    go_wp2_with (go_at_fn K;refine D.mono ?_;rintro e w' ⟨rfl,I⟩)
    go_roundg (n-(k+1))
    case measure=>omega
    case rel =>
     refine⟨k+1,by omega,by omega,by go_num,hb.trans (I.mono hb.size),(show Hid _ from fun i hi=>?_)⟩;by_cases e:i=k
     ·subst e;rw[Y.o];exact hq
     ·exact A.o i (by omega)
  ·have:k=n:=(by omega);subst this;clear E J
   go_wp2
   go_ret;exact⟨-1,rfl,hb,Or.inl ⟨rfl,A.o⟩⟩
theorem Ei(K:Nat)(J:Array Value)(p:Int->Bool)(kb L cap:Nat)(ks:List Int)(G:Nat->Value)(w:Wd)(hL:ks.length=L)(hc:L<=cap)(d5:cap<=9223372036854775807)(hG:w.rowIs kb 3 cap G)(a7:∀ j,j<L->G j=.int .i64 (ks.getD j 0))
  (eg:∀ args w,(callFunc K args).run prog w=.ok (.enter K args) w) (hT:∀ x ∈ ks,∀ w1,Off (fun b=>b=kb) w w1->yO K (#[.int .i64 x] ++ J) w1 fun e w2=>e=.returned (.bool (p x))/\Below w1.heap.size w1 w2) :
  yO 197 #[.slice (some ⟨kb,0,none⟩) L cap,.func (.func K) #[] J] w (IQ w kb cap (flt p ks)):=by
 have di:=RO K J p (some ⟨kb,0,none⟩) cap ks w (by omega) (qB hG (by omega) (by rw[hL];exact a7)) eg (fun x hx w1 hb=>hT x hx w1 (Off.of_below hb));rw[hL] at di;have HG:Hid (w.rowIs kb 3 cap G):=hG;have a6:Hid _:=a7;have HT:Hid _:=hT;have O:Hid _:=hL;have b3:=hG.lt;clear hG a7 hT hL
 go_enter func197,ntmps197
 go_wp2_with fail
 refine di.mono ?_;rintro e w1 ⟨r,rfl,M,hr⟩;clear di;rcases hr with ⟨rfl,a5⟩ |⟨k,hk,rfl,hp,hf⟩
 ·have b0:=AJ p ks (by rw[O.o];exact a5);have E:Hid _:=b0;clear a5 b0
  go_wp2
  go_ret;refine⟨by rw[E.o,O.o];rfl,Off.of_below M,G,HG.of_block (M.block kb b3),fun j hj=>?_⟩;rw[E.o] at hj |-;exact a6.o j (by rw[<- O.o];exact hj)
 ·have d4:((k:Int) == -1)=false:=beq_eq_false_iff_ne.2 (by omega)
  have F0:Hid (flt p (ks.take (k+1))=ks.take k):=by
   show _=_;rw[xB p ks k (by rw[O.o];exact hk),hp,ye rfl,List.append_nil];refine AJ p _ (fun i hi=>?_);rw[List.length_take] at hi;have b4:=O.o;have h1:=hf i (by omega);rw[aJ ks 0 (by omega)] at h1;rw[aJ (ks.take k) 0 (by rw[List.length_take];omega),List.getElem_take];exact h1
  have a9:Hid (w1.rowIs kb 3 cap G):=HG.of_block (M.block kb b3)
  have FI:Hid (∀ t,t<k->G t=.int .i64 ((flt p (ks.take (k+1))).getD t 0)):=fun t T=>by
   have b4:=O.o;rw[F0.o,a6.o t (by omega),aJ ks 0 (by omega),aJ (ks.take k) 0 (by rw[List.length_take];omega),List.getElem_take]
  have FL:Hid ((flt p (ks.take (k+1))).length=k):=by
   have b4:=O.o;show _=_;rw[F0.o,List.length_take];omega
  have O1:Hid (Off (fun b=>b=kb) w w1):=Off.of_below M;clear hp hf M
  go_wp2
  go_loopg [5,6] L (fun g1 s5 s6 wr=>∃ (i j:Nat) (G2:Nat->Value),i<j/\j<=L/\L-j<=g1/\s5=.int .i64 i/\s6=.int .i64 j/\Hid (Off (fun b=>b=kb) w wr)/\Hid (wr.rowIs kb 3 cap G2)/\Hid ((flt p (ks.take j)).length=i)/\Hid (∀ t,t<i->G2 t=.int .i64 ((flt p (ks.take j)).getD t 0))/\Hid (∀ t,j<=t->t<L->G2 t=.int .i64 (ks.getD t 0)))
  case atStart=>exact⟨k,k+1,G,by omega,by omega,by omega,rfl,by go_num,O1,a9,FL,FI,(show Hid _ from fun t _ T=>a6.o t T)⟩
  case round =>
   clear a9 FI FL O1;obtain⟨i,j,G2,c8,c9,b9,rfl,rfl,O2,R2,L2,I2,J2⟩:=hrel;have U:kb<wr.heap.size:=R2.lt;have b1:=R2.frozen;by_cases a8:j<L
   ·have b6:(j:Int)<(L:Int):=(by omega);have cj:=R2.cell (i:=j) (by omega);rw[J2.o j (yr _) a8] at cj;have ci:=R2.cell (i:=i) (by omega);have D:=HT.o (ks.getD j 0) (by rw[aJ ks 0 (by rw[O.o];exact a8)];exact List.getElem_mem _) wr O2.o;have Z:=xB p ks j (by rw[O.o];exact a8);generalize hy:ks.getD j 0=y at *;have HY:Hid _:=hy;clear hy
    cases hq:p y with
    | true =>
     rw[hq] at D Z;rw[ye rfl,List.append_nil] at Z;have I:Hid _:=Z;clear Z
     go_wp2_with (go_at_fn K;refine D.mono ?_;rintro e w2 ⟨rfl,F⟩)
     go_roundg (L-(j+1))
     case measure=>omega
     case rel=>exact⟨i,j+1,G2,by omega,by omega,by omega,rfl,by go_num,O2.trans (Off.of_below F),R2.of_block (F.block kb U),(show _=_ by rw[I.o];exact L2.o),(show Hid _ from fun t T=>by rw[I.o];exact I2.o t T),(show Hid _ from fun t h1 h2=>J2.o t (by omega) h2)⟩
    | false =>
     rw[hq] at D Z;rw[yd (by simp)] at Z;have I:Hid _:=Z;clear Z
     go_wp2_with (go_at_fn K;refine D.mono ?_;rintro e w2 ⟨rfl,F⟩;have b7:=(F.cell (by exact U)).trans ci;have b5:=fun o=>(F.frozen (by exact U)).trans (b1 o))
     go_roundg (L-(j+1))
     case measure=>omega
     case rel =>
      refine⟨i+1,j+1,_,by omega,by omega,by omega,by go_num,by go_num,(O2.trans (Off.of_below F)).trans (uA (X:=fun b=>b=kb) _ rfl _),(R2.of_block (F.block kb U)).set i (.int .i64 y),(show _=_ by rw[I.o,List.length_append,L2.o];rfl),(show Hid _ from fun t T=>?_),(show Hid _ from fun t h1 h2=>?_)⟩
      ·rw[I.o];by_cases e:t=i
       ·subst e;rw[ye rfl];simp[List.getD,L2.o]
       ·rw[yd e,I2.o t (by omega)];simp[List.getD,List.getElem?_append,L2.o,show t<i by omega]
      ·rw[yd (by omega)];exact J2.o t (by omega) h2
   ·have b2:j=L:=(by omega);subst b2;have c7:(i:Int)<=(cap:Int):=(by omega);have c6:(i:Int)<=(j:Int):=by omega
    have EF:Hid (flt p (ks.take j)=flt p ks):=by
     show _=_;rw[<- O.o,List.take_length]
    have b8:∀ ty,(Builtin.clear_ #[48] ty #[.slice (some ⟨kb,i,none⟩) (j-i) (cap-i)]).run prog wr=.ok (.tuple #[]) (wr.setCells kb i (List.replicate (j-i) (.int .i64 0))):=fun ty=>Lib.run_clear_slice wr 48 3 ty (.int .i64 0) underlying48 zeroValue3 rfl rfl kb i (j-i) (cap-i) (by omega) (fun t T=>by rw[R2.cell (by omega)];rfl) (fun t T=>b1 _)
    go_wp2
    go_ret;refine⟨?_,O2.trans (qA (X:=fun b=>b=kb) rfl _ _ _),_,pY _ _ _ _ R2.o,fun t T=>?_⟩
    ·rw[<- EF.o,L2.o];rfl
    ·rw[<- EF.o,L2.o] at T;rw[yd (by omega),I2.o t T,EF.o]
theorem Ej(K:Nat)(D:Array Value)(w:Wd)(M:∀ args w,(callFunc K args).run prog w=.ok (.enter K args) w) :
  yO 197 #[.slice none 0 0,.func (.func K) #[] D] w fun e w' => e=.returned (.slice none 0 0)/\Below w.heap.size w w' := by
 have I:=RO K D (fun _=>true) none 0 [] w (by simp) (fun i hi=>absurd hi (yB _)) M (fun x T=>by cases T)
 go_enter func197,ntmps197
 go_wp2_with fail
 refine I.mono ?_;rintro e w1 ⟨r,rfl,E,J⟩
 have F:r = -1:=by
  rcases J with ⟨h,_⟩ |⟨k,O,_⟩
  ·exact h
  ·exact absurd O (yB _)
 subst F;clear J I
 go_wp2
 go_ret;exact⟨rfl,E⟩
