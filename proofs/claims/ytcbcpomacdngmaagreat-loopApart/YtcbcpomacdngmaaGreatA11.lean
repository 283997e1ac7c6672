/-
  x
-/
import Derived.Test.YtcbcpomacdngmaaGreatA10
import Derived.Maps.OwnSet
import Derived.Maps.OwnOps
import Derived.Maps.Views
namespace Go.Proofs.YtcbcpomacdngmaaGreat
set_option maxRecDepth 100000
set_option maxHeartbeats 4000000
set_option linter.unusedVariables false
open Go.RowKit Go.ChangeShapes Go.WideShapes Tryz
variable{S:List Nd}{b n i H m:Nat}{w:Wd}{T:List Int}{k:Int}{w':World}{key:Value}
theorem Ex(x:Nd)(k:Value)(w:Wd) :
  yO 219 #[.agg #[.bool x.u,.int .i64 x.n,.int .i64 x.t,.int .i64 x.m,.int .i64 x.p,k,.int .i64 x.h,.bool x.c]] w fun e w' => e=.returned (.int .i64 x.p)/\Below w.heap.size w w' := by
 go_enter func219,ntmps219
 go_wp2
 go_ret;exact⟨rfl,(yv _ _).alloc (yr _) _⟩
theorem Ey(W0 W:Wd)(a:OA)(c:Nat)(S:List Nd)(near:Bool)(F D E gs:Nat)(hN:S.length<=24)(hS:aD W0 a S)(U:Bl W0 W)(h1:W0.heap.size<=D)(h2:W0.heap.size<=gs)
  (O:F<W.heap.size) (J:D<W.heap.size) (T:gs<W.heap.size) (M:E<W.heap.size) (n1:F≠D) (n2:F≠gs) (n3:E≠D) (n4:E≠gs) (n5:D≠gs)
  (cs:W.cell? ⟨F,0,none⟩=some (.slice (some ⟨gs,0,none⟩) S.length S.length)) (Z:W.cell? ⟨E,0,none⟩=some (.bool near)) (st:(Nat->Bool) × List Int) (place:Int) (w:Wd) (h:gZ W D gs S.length st w) :
  yO 150 #[.agg #[.slice a S.length c],.int .i64 place,.func (.func 219) #[] #[],.func (.func 220) #[] #[.pointer (some ⟨F,0,none⟩),.pointer (some ⟨D,0,none⟩),.pointer (some ⟨E,0,none⟩)]] w fun e w' => e=.returned (.tuple #[])/\gZ W D gs S.length (oO S near st place) w' := by
 refine(PR a c S w place 219 220 #[.pointer (some ⟨F,0,none⟩),.pointer (some ⟨D,0,none⟩),.pointer (some ⟨E,0,none⟩)] Nd.p (jJ near) (gZ W D gs S.length) (fun k=>k=D\/k=gs\/W.heap.size<=k) st oaa
  (fun st w1 h=>hS.below (U.trans (h.1.below (B:=W0.heap.size) U.size (fun k I=>by rcases I with I|I <;> omega))))
  (fun st w1 w2 h hb=>h.below hb)
  (yM func219 oad rfl) (yM func220 oad rfl)
  (fun x k w1=>Ex x k w1)
  (fun st x w1 h _ hx=>?_) h).mono ?_
 ·have hq:0<=x/\x<=(S.length:Int)-1:=of_decide_eq_true hx;obtain⟨j,rfl⟩:∃ j:Nat,x=(j:Int):=⟨x.toNat,oaa⟩;refine(Ew W F D E gs S.length near st j w1 oaa oaa h O J T M n1 n2 n3 n4 n5 cs Z).mono ?_;rintro e w2 ⟨rfl,g1,g2,g3⟩;exact⟨rfl,g1,g2,fun k I=>g3 k _ _ I oae oae oae⟩
 ·rintro e w' ⟨rfl,g1,_⟩;exact⟨rfl,g1⟩
theorem Ez(w:Wd)(D E o3 F I:Obj):Bl w (((((w.alloc D).alloc E).alloc o3).alloc F).alloc I):=(((dC w D E o3).alloc oab _).alloc oab _)
theorem Fa(a:OA)(c:Nat)(S:List Nd)(pa:OA)(pc:Nat)(places:List Int)(near:Bool)(w:Wd)(hN:S.length<=24)(hS:aD w a S)(hL:places.length<=1000000)(hP:aG w pa places) :
  yO 213 #[.agg #[.slice a S.length c],.slice pa places.length pc,.bool near] w fun e w' => ∃ v,e=.returned v/\Below w.heap.size w w' /\ w'.ownsRow w.heap.size 3 1 v (iT S near places).length ((iT S near places).map (Value.int .i64))/\(iT S near places).length<=S.length:=by
 have b5:=Ev S.length hN;have HS:Hid (aD w a S):=hS;have HP:Hid (aG w pa places):=hP;have HT:Hid (∀ k,k<places.length->nQ S near (places.take (k+1))=oO S near (nQ S near (places.take k)) (places.getD k 0)):=fun k I=>Ed S near places k I;have CL:Hid (∀ W bs bf bn gs,_):=fun W bs bf bn gs=>fun(D:Bl w W) h1 h2 b0 a8 b1 a9 n1 n2 n3 n4 n5 Z U st place W1 h=>Ey w W a c S near bs bf bn gs hN hS D h1 h2 b0 a8 b1 a9 n1 n2 n3 n4 n5 Z U st place W1 h;have H0:Hid (nQ S near (places.take 0)=(fun _=>false,[])):=rfl;have HE:Hid (iT S near places=(nQ S near (places.take places.length)).2):=by show _=_;rw[List.take_length];rfl
 generalize iT S near places=R at *;clear hS hP;generalize hn:S.length=n at *;have HN:Hid _:=hn;clear hn;generalize hl:places.length=L at *;have HL:Hid _:=hl;clear hl
 go_enter func213,ntmps213
 go_wp2
 obtain⟨W,D⟩:∃ W,W=(((((w.alloc (.cells #[.slice a n c] 43)).alloc (.cells #[.bool near] 4)).alloc (.cells (madeCells #[.bool false] n) 4)).alloc (.cells #[.slice (some ⟨w.heap.size+1+1,0,none⟩) n n] 259)).alloc (.cells #[.slice none 0 0] 48)):=⟨_,rfl⟩;rw[<- D];have hb:Bl w W:=by rw[D];exact Ez _ _ _ _ _ _
 have hz:W.heap.size=w.heap.size+1+1+1+1+1:=by rw[D];simp
 have c0:W.cell? ⟨w.heap.size,0,none⟩=some (.slice a n c):=by rw[D];go_simp
 have U:W.cell? ⟨w.heap.size+1,0,none⟩=some (.bool near):=by rw[D];go_simp
 have Z:W.cell? ⟨w.heap.size+1+1+1,0,none⟩=some (.slice (some ⟨w.heap.size+1+1,0,none⟩) n n):=by rw[D];go_simp
 have M:gZ W (w.heap.size+1+1+1+1) (w.heap.size+1+1) n (fun _=>false,[]) W:=by
  refine⟨Off.refl _ _,?_,⟨oac,fun x hx=>by cases hx⟩,.slice none 0 0,?_,World.ownsRow_nil _ _ _ _⟩
  ·rw[D];have h0:=World.rowIs_made ((w.alloc (.cells #[.slice a n c] 43)).alloc (.cells #[.bool near] 4)) (.bool false) n 4;have h1:Below (w.heap.size+1+1+1) (((w.alloc (.cells #[.slice a n c] 43)).alloc (.cells #[.bool near] 4)).alloc (.cells (madeCells #[.bool false] n) 4)) (((((w.alloc (.cells #[.slice a n c] 43)).alloc (.cells #[.bool near] 4)).alloc (.cells (madeCells #[.bool false] n) 4)).alloc (.cells #[.slice (some ⟨w.heap.size+1+1,0,none⟩) n n] 259)).alloc (.cells #[.slice none 0 0] 48)):=((yv _ _).alloc oac _).alloc oag _;simp only[yw] at h0;exact h0.of_block (h1.block _ oaa)
  ·rw[D];have:=yN ((((w.alloc (.cells #[.slice a n c] 43)).alloc (.cells #[.bool near] 4)).alloc (.cells (madeCells #[.bool false] n) 4)).alloc (.cells #[.slice (some ⟨w.heap.size+1+1,0,none⟩) n n] 259)) (.cells #[.slice none 0 0] 48);simpa using this
 have a7:Hid _:=M;have J:Hid (Bl w W):=hb;have a5:Hid _:=CL.out W (w.heap.size+1+1+1) (w.heap.size+1+1+1+1) (w.heap.size+1) (w.heap.size+1+1) hb oaa oaa oaa oaa oaa oaa oaa oaa oaa oaa oaa Z U;have C0:Hid (∀ st w1,gZ W (w.heap.size+1+1+1+1) (w.heap.size+1+1) n st w1->w1.cell? ⟨w.heap.size,0,none⟩=some (.slice a n c)/\Below w.heap.size w w1/\w.heap.size<w1.heap.size):=fun st w1 h=>⟨(h.1.cell (p:=⟨w.heap.size,0,none⟩) (by show w.heap.size < _;omega) (by show ¬ (w.heap.size=w.heap.size+1+1+1+1\/w.heap.size=w.heap.size+1+1);omega)).trans c0,J.trans (h.1.below J.size (fun k I=>by rcases I with I|I <;> omega)),by have:=h.1.size;omega⟩;clear D hb c0 U Z M CL
 go_loopg [17] L (fun g1 s17 wr=>∃ k:Nat,k<=L/\L-k<=g1/\s17=.int .i64 k/\Hid (gZ W (w.heap.size+1+1+1+1) (w.heap.size+1+1) n (nQ S near (places.take k)) wr))
 case atStart=>exact⟨0,oaa,oaa,rfl,by rw[H0.out];exact a7⟩
 case round =>
  obtain⟨k,I,b4,rfl,T⟩:=hrel;obtain⟨c0,E,b7⟩:=C0.out _ _ T.out;have a6:Hid _:=E;by_cases O:k<L
  ·have b3:(k:Int)<(L:Int):=oaa;obtain⟨pb,po,rfl,hp⟩:=(HP.below E) k (by rw[HL.out];exact O);have b6:=yi _ _ hp;have hc:=a5.out (nQ S near (places.take k)) (places.getD k 0) wr T.out;have TK:=HT.out k O;rw[<- TK] at hc;have HC:Hid _:=hc;clear hc TK E;generalize places.getD k 0=y at *
   go_wp2_with fail
   refine yj HC.out ?_;rintro e w2 ⟨rfl,I2⟩
   go_wp2
   go_roundg (L-(k+1))
   case measure=>omega
   case rel=>exact⟨k+1,oaa,oaa,by go_num,I2⟩
  ·have b2:k=L:=oaa;subst b2;obtain⟨hO,_,_,v,hv,F⟩:=T.out;have cb:=cZ hv
   have OW:Hid (wr.ownsRow w.heap.size 3 1 v R.length (R.map (Value.int .i64))):=by
    rw[HE.out];exact JE F oaa
   have SM:Hid (R.length<=n):=(by show _<=_;rw[HE.out];exact T.small);clear hO hv F E
   go_wp2
   go_ret;exact⟨v,rfl,a6.out,OW.out,SM.out⟩
structure Slt where
 pl:Int
 num:Int
 gv:List Int
def mV(S:List Nd)(x:Int):Int:=(nd S x.toNat).t-90
def oQ(S:List Nd)(H:Nat)(out:List Slt)(x:Int):List Slt :=
 if mV S x<0 then out else out++[⟨x,mV S x,if out.any (fun s=>decide (s.num=mV S x)) then [] else iZ S H (mV S x)⟩]
def dM(S:List Nd)(H:Nat)(l:List Int):List Slt:=l.foldl (oQ S H) []
def fC(S:List Nd)(H:Nat):List Slt:=if dA S H = -1 then [] else dM S H (bZ S S.length (dA S H).toNat)
theorem uJ{mk x:Int}:x ∈ iZ S H mk↔x ∈ (nd S H).ks/\(nd S x.toNat).m=mk:=by
 unfold iZ;rw[BD];unfold mD;simp
theorem BK(S:List Nd)(H:Nat)(l:List Int)(x:Int):dM S H (l++[x])=oQ S H (dM S H l) x:=by
 unfold dM;rw[List.foldl_append];rfl
theorem JF{α:Type}{P:List α->Prop}(h0:P [])(h1:∀ l x,P l->P (l++[x]))(l:List α):P l:=by
 have:∀ n,∀ l:List α,l.length=n->P l:=by
  intro n
  induction n with
  | zero=>intro l hl;cases l with|nil=>exact h0|cons=>cases hl
  | succ n E =>
   intro l hl;have D:l≠[]:=(by intro e;subst e;cases hl);rw[<- List.dropLast_concat_getLast D];exact h1 _ _ (E _ (by rw[List.length_dropLast];omega))
 exact this _ l rfl
theorem JG(l:List Int):∀ s ∈ dM S H l,s.pl ∈ l/\s.num=mV S s.pl/\0<=s.num/\(s.gv=[]\/s.gv=iZ S H s.num):=by
 induction l using JF with
 | h0=>intro s hs;cases hs
 | h1 l x E =>
  intro s hs;rw[BK] at hs;unfold oQ at hs
  split at hs
  ·obtain⟨h1,D⟩:=E s hs;exact⟨List.mem_append_left _ h1,D⟩
  ·rename_i hn;rcases List.mem_append.1 hs with hs|hs
   ·obtain⟨h1,D⟩:=E s hs;exact⟨List.mem_append_left _ h1,D⟩
   ·have e:=List.mem_singleton.1 hs;subst e;refine⟨oac,rfl,by dsimp only;omega,?_⟩;dsimp only;split
    ·exact Or.inl rfl
    ·exact Or.inr rfl
theorem SF(S:List Nd)(H:Nat)(l:List Int):(dM S H l).map Slt.pl=l.filter (fun x=>decide (0<=mV S x)):=by
 induction l using JF with
 | h0=>rfl
 | h1 l x D =>
  rw[BK,List.filter_append,<- D];unfold oQ;split
  ·rename_i h;have:¬ 0<=mV S x:=oaa;simp[this]
  ·rename_i h;have:0<=mV S x:=oaa;simp[this]
theorem SG(S:List Nd)(H:Nat)(l:List Int):(dM S H l).length<=l.length:=by
 have h:=congrArg List.length (SF S H l);rw[List.length_map] at h;rw[h];exact List.length_filter_le _ _
theorem Gc(S:List Nd)(H:Nat)(l:List Int):(dM S H l).Pairwise (fun s F=>F.gv=[]\/s.num≠F.num):=by
 induction l using JF with
 | h0=>exact List.Pairwise.nil
 | h1 l x I =>
  rw[BK];unfold oQ;split
  ·exact I
  ·rw[List.pairwise_append];refine⟨I,List.pairwise_singleton _ _,fun s hs F E=>?_⟩;have e:=List.mem_singleton.1 E;subst e;dsimp only;split
   ·exact Or.inl rfl
   ·rename_i D;right;intro e;exact D (List.any_eq_true.2 ⟨s,hs,yI e⟩)
theorem Gd{l:List Int}{s I:Slt}(hs:s ∈ dM S H l)(F:I ∈ dM S H l){c:Int}(hc:c ∈ s.gv)(D:c ∈ I.gv):s=I:=by
 obtain⟨_,_,_,h1⟩:=JG l s hs;obtain⟨_,_,_,h2⟩:=JG l I F;have U:s.gv≠[]:=fun e=>by rw[e] at hc;cases hc
 have Z:I.gv≠[]:=fun e=>by rw[e] at D;cases D
 have e1:=h1.resolve_left U;have e2:=h2.resolve_left Z;rw[e1] at hc;rw[e2] at D;have O:=(uJ.1 hc).2;have T:=(uJ.1 D).2;have J:=Gc S H l;obtain⟨i,hi,rfl⟩:=List.getElem_of_mem hs;obtain⟨j,M,rfl⟩:=List.getElem_of_mem F;rw[List.pairwise_iff_getElem] at J;rcases Nat.lt_trichotomy i j with E|e|E
 ·rcases J i j hi M E with h|h
  ·exact absurd h Z
  ·exact absurd (O.symm.trans T) h
 ·subst e;rfl
 ·rcases J j i M hi E with h|h
  ·exact absurd h U
  ·exact absurd (T.symm.trans O) h
def dQ(S:List Nd):Nat->Nat->List Int
 | 0,_=>[]
 | h+1,p=>match (fC S h).find? (fun s=>decide (s.pl=(p:Int))) with
  | some s=>s.gv
  | none=>dQ S h p
def oU(S:List Nd)(h:Nat)(L:List Slt)(p:Nat):List Int:=match L.find? (fun s=>decide (s.pl=(p:Int))) with
  | some s=>s.gv
  | none=>dQ S h p
theorem BL{S:List Nd}:∀ {h p:Nat} {c:Int},c ∈ dQ S h p->∃ H s,H<h/\s ∈ fC S H/\s.pl=(p:Int)/\c ∈ s.gv
 | 0,_,_,hc=>by cases hc
 | h+1,p,c,hc=>by
  unfold dQ at hc
  split at hc
  ·rename_i s hs;exact⟨h,s,oaa,List.mem_of_find?_eq_some hs,by have:=List.find?_some hs;simpa using this,hc⟩
  ·obtain⟨H,s,h1,D⟩:=BL hc;exact⟨H,s,oaa,D⟩
theorem JH{S:List Nd}:∀ {h p:Nat},dQ S h p=[]\/∃ H s,H<h/\s ∈ fC S H/\dQ S h p=s.gv
 | 0,_=>Or.inl rfl
 | h+1,p=>by
  unfold dQ;split
  ·rename_i s hs;exact Or.inr ⟨h,s,oaa,List.mem_of_find?_eq_some hs,rfl⟩
  ·rcases JH (S:=S) (h:=h) (p:=p) with e |⟨H,s,h1,D⟩
   ·exact Or.inl e
   ·exact Or.inr ⟨H,s,oaa,D⟩
theorem uK(h:WF S){s:Slt}(hs:s ∈ fC S H):∃ r k j:Nat,r<S.length/\(nd S r).h=H/\dA S H=r/\s.pl=k/\k<S.length/\Up S j k r/\s.num=mV S s.pl/\0<=s.num/\(s.gv=[]\/s.gv=iZ S H s.num)/\s ∈ dM S H (bZ S S.length r):=by
 unfold fC at hs
 split at hs
 ·cases hs
 ·rename_i I;obtain⟨r,h1,D,E,_⟩:=rR S H I;rw[D,yk] at hs;obtain⟨M,O,T,U⟩:=JG _ s hs;obtain⟨q,e,F,_,j,_,J⟩:=qD h h1 (h.deep_all h1) _ M;exact⟨r,q,j,h1,E,D,e,F,J,O,T,U,hs⟩
theorem SN(h:WF S):kZ S (dQ S S.length) where
 some:=fun p hp c hc=>by
  obtain⟨H,s,h1,F,h3,D⟩:=BL hc;obtain⟨r,k,j,r1,r2,_,r3,r4,r5,_,_,I,_⟩:=uK h F;have:k=p:=oaa
  subst this;have e:=I.resolve_left (fun e=>by rw[e] at D;cases D);rw[e] at D;exact⟨H,r,j,h1,r1,r2,r5,(uJ.1 D).1⟩
 one:=fun p p' c hp a7 hc T=>by
  obtain⟨H,s,h1,F,h3,D⟩:=BL hc;obtain⟨H', s', M,O,a6,E⟩:=BL T;obtain⟨r,_,_,r1,r2,rr,_,_,_,_,_,I,r7⟩:=uK h F;obtain⟨r', _,_,a8,a9,b0,_,_,_,_,_,U,Z⟩:=uK h O;have e:=I.resolve_left (fun e=>by rw[e] at D;cases D);have e' := U.resolve_left (fun e=>by rw[e] at E;cases E);have k1:=D;have k2:=E;rw[e] at k1;rw[e'] at k2;obtain⟨k,ek,_,_,p1,_⟩:=h.kid h1 (uJ.1 k1).1;obtain⟨k', a5,_,_,p2,_⟩:=h.kid M (uJ.1 k2).1;have:k=k' := by omega
  subst this;have:H=H' := by omega
  subst this;have:r=r' := by omega
  subst this;have:=Gd r7 Z D E;subst this;omega
 nodup:=fun p hp=>by
  rcases JH (S:=S) (h:=S.length) (p:=p) with e |⟨H,s,h1,F,e⟩
  ·rw[e];exact List.nodup_nil
  ·rw[e];obtain⟨_,_,_,_,_,_,_,_,_,_,_,I,_⟩:=uK h F;rcases I with J|J
   ·rw[J];exact List.nodup_nil
   ·rw[J];unfold iZ flt;exact(h.kids_nodup h1).filter _
theorem Gf(h:WF S):((fC S H).map Slt.pl).Nodup:=by
 unfold fC;split
 ·exact List.nodup_nil
 ·rename_i E;obtain⟨r,h1,D,_⟩:=rR S H E;rw[D,yk,SF];exact(AX h h1 (yr _) (h.deep_all h1)).filter _
theorem Gg{h:Nat}{L:List Slt}(hn:(L.map Slt.pl).Nodup)(hi:i<L.length)(p:Nat):oU S h (L.take (i+1)) p=if L[i].pl=(p:Int) then L[i].gv else oU S h (L.take i) p:=by
 unfold oU;rw[List.take_succ_eq_append_getElem hi,List.find?_append];by_cases e:L[i].pl=(p:Int)
 ·rw[ye e]
  have D:(L.take i).find? (fun s=>decide (s.pl=(p:Int)))=none:=by
   rw[List.find?_eq_none];intro s hs hd;have E:=of_decide_eq_true hd;obtain⟨j,F,rfl⟩:=List.getElem_of_mem hs;rw[List.length_take] at F;rw[List.getElem_take] at E;have:=(List.nodup_iff_pairwise_ne.1 hn);rw[List.pairwise_iff_getElem] at this;have:=this j i (by rw[List.length_map];omega) (by rw[List.length_map];omega) oaa;rw[List.getElem_map,List.getElem_map] at this;exact this (E.trans e.symm)
  rw[D];simp[e]
 ·rw[yd e]
  cases (L.take i).find? (fun s=>decide (s.pl=(p:Int))) <;> simp[e]
theorem Gh(h:WF S){D p:Nat}(hh:D<=S.length):(dQ S D p).length<=24/\∀ c ∈ dQ S D p,∃ k:Nat,c=k/\k<S.length:=by
 have hs:=h.small;rcases JH (S:=S) (h:=D) (p:=p) with e |⟨H,s,h1,M,e⟩
 ·rw[e];exact⟨oac,fun c hc=>by cases hc⟩
 ·rw[e];obtain⟨_,_,_,_,_,_,_,_,_,_,_,T,_⟩:=uK h M;rcases T with E|E
  ·rw[E];exact⟨oac,fun c hc=>by cases hc⟩
  ·rw[E]
   have J:∀ c ∈ iZ S H s.num,∃ k:Nat,c=k/\k<S.length:=fun c hc=>by
    obtain⟨k,e,F,_⟩:=h.kid oaa (uJ.1 hc).1;exact⟨k,e,F⟩
   refine⟨?_,J⟩;have I:(iZ S H s.num).Nodup:=by unfold iZ flt;exact(h.kids_nodup oaa).filter _
   have:=I.length_le_of_subset (l₂:=(List.range S.length).map (fun i:Nat=>(i:Int))) (fun x O=>by
    obtain⟨k,rfl,F⟩:=J x O;exact List.mem_map.2 ⟨k,List.mem_range.2 F,rfl⟩)
   simp at this;omega
def slt(L:List Slt)(i:Nat):Slt:=L.getD i ⟨0,0,[]⟩
def nR(w:Wd)(a:OA)(L:List Slt):Prop :=
 ∀ i,i<L.length->∃ b o,a=some ⟨b,o,none⟩/\w.cell? ⟨b,o+i*3,none⟩=some (.int .i64 (slt L i).pl)/\w.cell? ⟨b,o+i*3+1,none⟩=some (.int .i64 (slt L i).num)/\∃ ga gc,w.cell? ⟨b,o+i*3+2,none⟩=some (.slice ga (slt L i).gv.length gc)/\aG w ga (slt L i).gv
theorem nR.below{w:World}{a:OA}{L:List Slt}(h:nR w a L)(hb:Bl w w'):nR w' a L:=fun i hi=>by
 obtain⟨b,o,e,h1,E,ga,gc,F,I⟩:=h i hi;have D:b<w.heap.size:=yi _ _ h1;exact⟨b,o,e,(hb.cell (by exact D)).trans h1,(hb.cell (by exact D)).trans E,ga,gc,(hb.cell (by exact D)).trans F,I.below hb⟩
theorem rT{L:List Slt}(h:i<L.length):slt L i=L[i]:=aJ L _ h
def JI(K:Nat)(D:Array Value)(p:Slt->Bool)(w:Wd):Prop :=
 ∀ (x:Slt) (k:Value) (w1:Wd),Bl w w1->yO K (#[.agg #[.int .i64 x.pl,.int .i64 x.num,k]] ++ D) w1 fun e w2=>e=.returned (.bool (p x))/\Below w1.heap.size w1 w2
theorem Gi(K:Nat)(E:Array Value)(p:Slt->Bool)(a:OA)(c:Nat)(L:List Slt)(w:Wd)(T:L.length<=9223372036854775807)(O:nR w a L)
  (eg:∀ args w,(callFunc K args).run prog w=.ok (.enter K args) w) (U:JI K E p w) :
  yO 226 #[.slice a L.length c,.func (.func K) #[] E] w fun e w' => ∃ r:Int,e=.returned (.int .i64 r)/\Below w.heap.size w w' /\
   ((r = -1/\∀ i,i<L.length->p (slt L i)=false)\/(∃ k:Nat,k<L.length/\r=k/\p (slt L k)=true/\∀ i,i<k->p (slt L i)=false)):=by
 have HS:Hid (nR w a L):=O;have HF:Hid (JI K E p w):=U;clear O U;generalize hn:L.length=n at *;have HN:Hid _:=hn;clear hn
 go_enter func226,ntmps226
 go_wp2
 go_loopg [8] n (fun g s8 wr=>∃ k:Nat,k<=n/\n-k<=g/\s8=.int .i64 k/\Below w.heap.size w wr/\Hid (∀ i,i<k->p (slt L i)=false))
 case atStart=>exact⟨0,oaa,oaa,rfl,yv _ _,fun i hi=>oaa⟩
 case round =>
  obtain⟨k,hk,hg,rfl,hb,A⟩:=hrel;by_cases I:k<n
  ·have Z:(k:Int)<(n:Int):=oaa;obtain⟨b,o,rfl,c0,c1,ka,kc,c2,_⟩:=(HS.below hb) k (by rw[HN.out];exact I);have D:=fun v=>HF.out (slt L k) v wr hb
   cases hq:p (slt L k) with
   | true =>
    have J:Hid (p (slt L k)=true):=hq;rw[hq] at D;clear hq;generalize M:slt L k=x at D c0 c1 c2;clear M
    go_wp2_with (go_at_fn K;refine(D _).mono ?_;rintro e w' ⟨rfl,F⟩)
    go_ret;exact⟨k,rfl,hb.trans (F.mono hb.size),Or.inr ⟨k,I,rfl,J.out,A.out⟩⟩
   | false =>
    have J:Hid (p (slt L k)=false):=hq;rw[hq] at D;clear hq;generalize M:slt L k=x at D c0 c1 c2;clear M
    go_wp2_with (go_at_fn K;refine(D _).mono ?_;rintro e w' ⟨rfl,F⟩)
    go_roundg (n-(k+1))
    case measure=>omega
    case rel =>
     refine⟨k+1,oaa,oaa,by go_num,hb.trans (F.mono hb.size),(show Hid _ from fun i hi=>?_)⟩;by_cases e:i=k
     ·subst e;exact J.out
     ·exact A.out i oaa
  ·have:k=n:=oaa;subst this
   go_wp2
   go_ret;exact⟨-1,rfl,hb,Or.inl ⟨rfl,A.out⟩⟩
theorem Gj(K:Nat)(F:Array Value)(p:Slt->Bool)(a:OA)(c:Nat)(L:List Slt)(w:Wd)(J:L.length<=9223372036854775807)(T:nR w a L)
  (Z:∀ args w,(callFunc K args).run prog w=.ok (.enter K args) w) (U:JI K F p w) :
  yO 221 #[.slice a L.length c,.func (.func K) #[] F] w fun e w' => e=.returned (.bool (L.any p))/\Below w.heap.size w w' := by
 have h:=Gi K F p a c L w J T Z U;have E:∀ k,k<L.length->p (slt L k)=true->L.any p=true:=fun k M O=>List.any_eq_true.2 ⟨slt L k,by rw[rT M];exact List.getElem_mem M,O⟩
 have D:(∀ i,i<L.length->p (slt L i)=false)->L.any p=false:=fun H=>by
  rw[List.any_eq_false];intro x hx;obtain⟨i,hi,rfl⟩:=List.getElem_of_mem hx;have:=H i hi;rw[rT hi] at this;simp[this]
 have H:Hid _:=E;have N:Hid _:=D;clear E D T U
 go_enter func221,ntmps221
 go_wp2_with (go_at_call 226;refine h.mono ?_;rintro e w' ⟨r,rfl,hb,hr⟩)
 go_ret;refine⟨?_,hb⟩;rcases hr with ⟨rfl,I⟩ |⟨k,M,rfl,O,_⟩
 ·rw[N.out I];rfl
 ·rw[H.out k M O];simp
theorem Gl(x:Slt)(k:Value)(q:Nat)(y:Int)(w:Wd)(D:w.cell? ⟨q,0,none⟩=some (.int .i64 y)) :
  yO 222 #[.agg #[.int .i64 x.pl,.int .i64 x.num,k],.pointer (some ⟨q,0,none⟩)] w fun e w' => e=.returned (.bool (decide (x.num=y)))/\Below w.heap.size w w' := by
 obtain⟨pl,num,gv⟩:=x;dsimp only;have E:=yi _ _ D;by_cases e:num=y
 ·subst e;rw[yI rfl]
  go_enter func222,ntmps222
  go_wp2
  go_ret;exact⟨rfl,(yv _ _).alloc (yr _) _⟩
 ·rw[yH e];have F:(num == y)=false:=by simpa using e
  go_enter func222,ntmps222
  go_wp2
  go_ret;exact⟨rfl,(yv _ _).alloc (yr _) _⟩
theorem Gm(a:OA)(c:Nat)(L:List Slt)(q:Nat)(y:Int)(w:Wd)(D:L.length<=9223372036854775807)(F:nR w a L)(E:w.cell? ⟨q,0,none⟩=some (.int .i64 y)) :
  yO 221 #[.slice a L.length c,.func (.func 222) #[] #[.pointer (some ⟨q,0,none⟩)]] w fun e w' => e=.returned (.bool (L.any fun s=>decide (s.num=y)))/\Below w.heap.size w w' :=
 Gj 222 _ (fun s=>decide (s.num=y)) a c L w D F (yM func222 oad rfl) (fun x k w1 h1=>Gl x k q y w1 ((h1.cell (by exact yi _ _ E)).trans E))
theorem Hr{N:Nat}{l:List Nat}(h:l.Nodup)(hl:∀ y ∈ l,y<N):l.length<=N:=by
 have:=h.length_le_of_subset (l₂:=List.range N) (fun y D=>List.mem_range.2 (hl y D));simpa using this
structure Cl where
 n:Int
 ks:List Int
 deriving DecidableEq
def TE:Cl:=⟨0,[]⟩
def cl(G:List Cl)(i:Nat):Cl:=G.getD i TE
theorem kC{G:List Cl}(h:i<G.length):cl G i=G[i]:=aJ G TE h
theorem Ht{G H:List Cl}(hl:G.length=H.length)(h:∀ i,i<G.length->cl G i=cl H i):G=H:=by
 apply List.ext_getElem hl;intro i h1 D;have:=h i h1
 rwa [kC h1,kC D] at this
def iF(m:Nat)(x:Cl):Int:=if x.n < -1000000\/1000000<x.n then 2 else if 8<x.ks.length then 1 else if x.ks.any (fun k=>!decide (0<=k/\k<=(m:Int)-1)) then 4 else 0
def cellsE(m:Nat):List Cl->Int
 | []=>0
 | x :: l=>if iF m x=0 then cellsE m l else iF m x
def bring(T:List Int)(k:Int):List Int:=if k ∈ T then T else T++[k]
def brings(T ks:List Int):List Int:=ks.foldl bring T
def bfs(G:List Cl):Nat->List Int
 | 0=>[0]
 | i+1=>if i<(bfs G i).length then brings (bfs G i) (cl G ((bfs G i).getD i 0).toNat).ks else bfs G i
def at1(T:List Int)(k:Int):Int:=(T.idxOf k:Int)
def uL(G:List Cl)(T:List Int)(k:Int):Cl:=⟨(cl G k.toNat).n,(cl G k.toNat).ks.map (at1 T)⟩
def reach(G:List Cl):List Int:=bfs G G.length
def bL(G:List Cl):List Cl:=if G.length=0 then [] else (reach G).map (uL G (reach G))
def kD(G:List Cl):Prop:=∀ i,i<G.length->∀ k ∈ (cl G i).ks,∃ q:Nat,k=q/\q<G.length
def rU(m:Nat)(T:List Int):Prop:=T.Nodup/\∀ k ∈ T,∃ q:Nat,k=q/\q<m
theorem TF(T:List Int)(k:Int):∃ r,bring T k=T++r:=by
 unfold bring;split
 ·exact⟨[],oac⟩
 ·exact⟨[k],rfl⟩
theorem TG:∀ (ks T:List Int),∃ r,brings T ks=T++r
 | [],T=>⟨[],by simp[brings]⟩
 | k :: ks,T=>by
  obtain⟨r1,h1⟩:=TF T k;obtain⟨r2,D⟩:=TG ks (bring T k);exact⟨r1++r2,by show brings (bring T k) ks=_;rw[D,h1,List.append_assoc]⟩
theorem Hu(T ks:List Int)(k:Int):brings T (ks++[k])=bring (brings T ks) k:=by simp[brings]
theorem Hw(h:rU m T)(D:∃ q:Nat,k=q/\q<m):rU m (bring T k):=by
 unfold bring;split
 ·exact h
 ·rename_i hn;refine⟨?_,fun x E=>?_⟩
  ·rw[List.nodup_append];exact⟨h.1,oac,fun a ha b hb e=>by simp at hb;subst hb;subst e;exact hn ha⟩
  ·rcases List.mem_append.1 E with h1|h1
   ·exact h.2 x h1
   ·simp at h1;subst h1;exact D
theorem TH{m:Nat}:∀ (ks:List Int) {T:List Int},rU m T->(∀ k ∈ ks,∃ q:Nat,k=q/\q<m)->rU m (brings T ks)
 | [],_,h,_=>h
 | k :: ks,T,h,D=>TH ks (Hw h (D k oac)) (fun x E=>D x (by simp[E]))
theorem BO:∀ (ks:List Int) (T:List Int) (x:Int),x ∈ brings T ks↔x ∈ T\/x ∈ ks
 | [],T,x=>by simp[brings]
 | k :: ks,T,x=>by
  show x ∈ brings (bring T k) ks↔_;rw[BO ks]
  have:x ∈ bring T k↔x ∈ T\/x=k:=by
   unfold bring;split
   ·rename_i h;exact⟨Or.inl,fun h1=>h1.elim id (fun e=>by rw[e];exact h)⟩
   ·simp
  rw[this];simp[or_assoc]
theorem JK{r:List Int}(h:k ∈ T):at1 (T++r) k=at1 T k:=by
 unfold at1;rw[List.idxOf_append,ye h]
theorem TI(h:k ∉ T):at1 (T++[k]) k=T.length:=by
 unfold at1;rw[List.idxOf_append,yd h];simp
theorem Hy(h:k ∈ T):(at1 T k).toNat<T.length/\T.getD (at1 T k).toNat 0=k:=by
 unfold at1;have h1:=List.idxOf_lt_length_of_mem h;rw[yk];exact⟨h1,by rw[aJ _ _ h1];exact List.getElem_idxOf h1⟩
theorem BQ(h:rU m T):T.length<=m:=by
 have h1:(T.map Int.toNat).Nodup:=by
  rw[List.nodup_iff_pairwise_ne,List.pairwise_map];refine(List.nodup_iff_pairwise_ne.1 h.1).imp_of_mem (fun {a b} ha hb D e=>D ?_);obtain⟨q,J,_⟩:=h.2 a ha;obtain⟨U,M,_⟩:=h.2 b hb;omega
 have E:=Hr (N:=m) h1 (fun y I=>by
  obtain⟨x,F,rfl⟩:=List.mem_map.1 I;obtain⟨q,e,O⟩:=h.2 x F
  omega)
 rwa [List.length_map] at E
theorem TJ(G:List Cl)(i:Nat):∃ r,bfs G (i+1)=bfs G i++r:=by
 rw[bfs];split
 ·exact TG _ _
 ·exact⟨[],oac⟩
theorem TM(G:List Cl)(i:Nat):∀ j,∃ r,bfs G (i+j)=bfs G i++r
 | 0=>⟨[],oac⟩
 | j+1=>by
  obtain⟨r,h⟩:=TM G i j;obtain⟨E,D⟩:=TJ G (i+j);exact⟨r++E,by rw[show i+(j+1)=i+j+1 by omega,D,h,List.append_assoc]⟩
theorem uM{G:List Cl}(E:kD G)(h0:0<G.length):∀ i,rU G.length (bfs G i)
 | 0=>⟨by simp[bfs],fun k F=>⟨0,by simpa [bfs] using F,h0⟩⟩
 | i+1=>by
  have D:=uM E h0 i;rw[bfs];split
  ·rename_i hi;refine TH _ D ?_;obtain⟨q,e,I⟩:=D.2 ((bfs G i).getD i 0) (by rw[aJ _ _ hi];exact List.getElem_mem hi);rw[e,yk];exact E q I
  ·exact D
theorem BU{G:List Cl}{i:Nat}(h:¬ i<(bfs G i).length):∀ j,bfs G (i+j)=bfs G i
 | 0=>rfl
 | j+1=>by
  have D:=BU h j;rw[show i+(j+1)=i+j+1 by omega,bfs,D,yd oaa]
theorem TS{G:List Cl}(E:kD G)(h0:0<G.length)(h:¬ i<(bfs G i).length):bfs G i=reach G:=by
 unfold reach;rcases Nat.le_total i G.length with h1|h1
 ·have:=BU h (G.length-i);rw[show i+(G.length-i)=G.length by omega] at this;exact this.symm
 ·have D:¬ G.length<(bfs G G.length).length:=by have:=BQ (uM E h0 G.length);omega
  have:=BU D (i-G.length);rw[show G.length+(i-G.length)=i by omega] at this;exact this
theorem TV{G:List Cl}(D:kD G)(h0:0<G.length):rU G.length (reach G):=uM D h0 _
theorem Hz{G:List Cl}(D:kD G)(h0:0<G.length):(reach G).length<=G.length:=BQ (TV D h0)
theorem BX{G:List Cl}(E:kD G)(h0:0<G.length)(i:Nat):∃ r,reach G=bfs G i++r:=by
 rcases Nat.le_total i G.length with h1|h1
 ·have:=TM G i (G.length-i);rw[show i+(G.length-i)=G.length by omega] at this;exact this
 ·have D:¬ G.length<(bfs G G.length).length:=by have:=BQ (uM E h0 G.length);omega
  have:=BU D (i-G.length);rw[show G.length+(i-G.length)=i by omega] at this;exact⟨[],by rw[this];simp[reach]⟩
theorem Ia{G:List Cl}(D:kD G)(h0:0<G.length)(i:Nat):(bfs G i).length<=G.length:=BQ (uM D h0 i)
theorem Ib{G:List Cl}(E:kD G)(h0:0<G.length)(hi:i<(reach G).length)(I:k ∈ (cl G ((reach G).getD i 0).toNat).ks):k ∈ reach G:=by
 obtain⟨r,J⟩:=BX E h0 i;obtain⟨M,F⟩:=BX E h0 (i+1)
 have D:i<(bfs G i).length:=by
  by_cases h:i<(bfs G i).length
  ·exact h
  ·have:=TS E h0 h;rw[this] at h;exact absurd hi h
 have e:(reach G).getD i 0=(bfs G i).getD i 0:=by
  rw[J,aJ _ _ oab,aJ _ _ D,List.getElem_append_left D]
 rw[F,bfs,ye D];refine List.mem_append_left _ ?_;rw[BO];rw[e] at I;exact Or.inr I
theorem xK{G:List Cl}(h0:0<G.length):(bL G).length=(reach G).length:=by
 unfold bL;rw[yd oaa,List.length_map]
theorem JL{G:List Cl}(h0:0<G.length)(hi:i<(reach G).length):cl (bL G) i=uL G (reach G) ((reach G).getD i 0):=by
 rw[kC (by rw[xK h0];exact hi),aJ _ _ hi];unfold bL;simp[show ¬ G.length=0 by omega]
theorem JM{G:List Cl}(h0:G.length=0):bL G=[]:=by unfold bL;rw[ye h0]
theorem Ic{G:List Cl}(E:kD G):kD (bL G):=by
 by_cases h0:G.length=0
 ·rw[JM h0];intro i hi;cases hi
 ·have h0:0<G.length:=oaa
  intro i hi k D;rw[xK h0] at hi |-;rw[JL h0 hi] at D;obtain⟨x,F,rfl⟩:=List.mem_map.1 D;have:=Hy (Ib E h0 hi F);refine⟨(at1 (reach G) x).toNat,?_,this.1⟩;unfold at1;simp
def UC(v:Value):Option (DataW Value × List MemPlace):=some (.held v,[])
def dU(P:Program)(E:TypeId)(w:Wd)(b n:Nat)(f:Lit->Option Value):Prop :=
 ∃ D:DataW Value,w.ownsMap P E UC b n D/\Maps.IsMap D/\∀ kl,WideAt.IsKeyLit kl->Maps.has D kl=(f kl).isSome/\∀ v,f kl=some v->∀ z,D.atKey kl z=.held v
theorem dU.made(P:Program)(D:TypeId)(w:Wd):dU P D (w.alloc (.map #[] 0)) w.heap.size 0 (fun _=>none) :=
 ⟨.map [],World.ownsMap_made w _ _ _,Maps.isMap_empty,fun _ _=>⟨rfl,fun _ h=>oah⟩⟩
theorem dU.lt{P:Program}{D:TypeId}{f:Lit->Option Value}(h:dU P D w b n f):b<w.heap.size:=let ⟨_,h1,_⟩:=h;h1.lt
theorem dU.kept{P:Program}{E:TypeId}{w:World}{f:Lit->Option Value}(h:dU P E w b n f)(e:w'.heap[b]?=w.heap[b]?):dU P E w' b n f:=by
 obtain⟨D,⟨I,clock,hb,F,hs,M⟩,J⟩:=h;exact⟨D,⟨I,clock,e.trans hb,F,hs,M⟩,J⟩
theorem dU.mono{P:Program}{E:TypeId}{F:Nat}{f:Lit->Option Value}(h:dU P E w b n f)(hn:n<=F):dU P E w b F f:=let ⟨D,h1,h2⟩:=h;⟨D,h1.mono hn,h2⟩
theorem dU.ne{P:Program}{I:TypeId}{E t:Nat}{f:Lit->Option Value}{J:Array Value}{z:Nat × Nat}(h:dU P I w b n f)(e:w.heap[E]?=some (.cells J t z)):E≠b:=by
 obtain⟨D,⟨M,clock,hb,_⟩,_⟩:=h;intro F;subst F;rw[e] at hb;cases hb
theorem dU.congr{P:Program}{F:TypeId}{f g:Lit->Option Value}(h:dU P F w b n f)(e:∀ kl,WideAt.IsKeyLit kl->f kl=g kl):dU P F w b n g:=by
 obtain⟨D,h1,I,J⟩:=h;exact⟨D,h1,I,fun kl E=>by rw[<- e kl E];exact J kl E⟩
theorem dU.look_ok{P:Program}{J:TypeId}{f:Lit->Option Value}(h:dU P J w b n f)(K:Maps.Keyed P J){t e:TypeId}(U:P.underlying t=some (.map J e)){z:Value}(Z:(zeroValue e).run P w=.ok z w)
   {kl:Lit} (F:keyOf P J key=some kl) (T:WideAt.IsKeyLit kl) :
  (Instr.lookup t (.map (some b)) key true).run P w=.ok (.tuple #[(f kl).getD z,.bool (f kl).isSome]) w:=by
 obtain⟨D,h1,_,O⟩:=h;obtain⟨v,ps,I,hv⟩:=h1.look_ok K U Z (zd:=.held z) (zp:=[]) rfl F;rw[I];obtain⟨M,h5⟩:=O kl T;have E:DataW.held v=D.atKey kl (.held z):=by unfold UC at hv;simp at hv;exact hv.1
 rw[M]
 cases hf:f kl with
 | none =>
  rw[hf] at M;rw[Maps.atKey_of_not_has M] at E;cases E;rfl
 | some y =>
  rw[h5 y hf] at E;cases E;rfl
theorem dU.put{P:Program}{J:TypeId}{f:Lit->Option Value}(h:dU P J w b n f)(K:Maps.Keyed P J){t e:TypeId}(ht:P.underlying t=some (.map J e))(hn:n<maxLen)
   {kl:Lit} (F:keyOf P J key=some kl) (hk:WideAt.IsKeyLit kl) (v:Value) :
  ∃ w',(Instr.mapUpdate t (.map (some b)) key v).run P w=.ok () w' /\(∀ g:Lit->Option Value,g kl=some v->(∀ j,j≠kl->g j=f j)->dU P J w' b (n+1) g)/\w.grownBy w' (some b):=by
 obtain⟨D,h1,O,Z⟩:=h;obtain⟨w', I,h4,h5⟩:=h1.update K ht hn F (val:=v) (d:=.held v) (ps:=[]) rfl;refine⟨w', I,fun g T U=>⟨_,h4,O.put _ _,fun j M=>?_⟩,h5⟩;by_cases e:j=kl
 ·subst e;rw[T];exact⟨Maps.has_put_same O M _,fun v' E z=>by cases E;exact Maps.atKey_put_same O M _ _⟩
 ·rw[U j e,Maps.has_put_other e];exact⟨(Z j M).1,fun v' E z=>by rw[Maps.atKey_put_other e];exact(Z j M).2 v' E z⟩
