/-
  x
-/
import Derived.Test.YtcbcpomacdngmaaGreatA10
import Derived.Deep.DeepCutAuto
namespace Go.Proofs.YtcbcpomacdngmaaGreat
set_option maxRecDepth 100000
set_option maxHeartbeats 4000000
set_option linter.unusedVariables false
open Go.RowKit Tryz
variable{S:List Nd}{H i:Nat}{L:List Slt}
theorem Ef(T M:Int)(near:Bool)(x:Nd)(k:Value)(w:Wd) :
  yO 212 #[.agg #[.int .i64 T,.int .i64 M,.bool near],.agg #[.bool x.u,.int .i64 x.n,.int .i64 x.t,.int .i64 x.m,.int .i64 x.p,k,.int .i64 x.h,.bool x.c]] w fun e w' => e=.returned (.bool (rP T M x))/\Below w.heap.size w w' := by
 obtain⟨xu,xn,O,F,xp,Z,xh,xc⟩:=x;unfold rP;dsimp only;by_cases h1:T = -1000001
 ·subst h1;simp only[decide_true,Bool.true_or,Bool.true_and];by_cases D:M = -1000001
  ·subst D;simp only[decide_true,Bool.true_or]
   go_enter func212,ntmps212
   go_wp2
   go_ret;exact⟨rfl,((yv _ _).alloc (yr _) _).alloc (by simp) _⟩
  ·have U:(M == -1000001)=false:=beq_eq_false_iff_ne.2 D;rw[yH D,Bool.false_or];by_cases E:M=F
   ·subst E;simp only[decide_true]
    go_enter func212,ntmps212
    go_wp2
    go_ret;exact⟨by simp,((yv _ _).alloc (yr _) _).alloc (by simp) _⟩
   ·have I:(M == F)=false:=beq_eq_false_iff_ne.2 E;rw[yH E]
    go_enter func212,ntmps212
    go_wp2
    go_ret;refine⟨?_,((yv _ _).alloc (yr _) _).alloc (by simp) _⟩
    first
     | rfl
     | simp[I]
 ·have e1:(T == -1000001)=false:=beq_eq_false_iff_ne.2 h1;rw[yH h1,Bool.false_or];by_cases J:T=O
  ·subst J;simp only[decide_true,Bool.true_and];by_cases D:M = -1000001
   ·subst D;simp only[decide_true,Bool.true_or]
    go_enter func212,ntmps212
    go_wp2
    go_ret;exact⟨rfl,((yv _ _).alloc (yr _) _).alloc (by simp) _⟩
   ·have U:(M == -1000001)=false:=beq_eq_false_iff_ne.2 D;rw[yH D,Bool.false_or];by_cases E:M=F
    ·subst E;simp only[decide_true]
     go_enter func212,ntmps212
     go_wp2
     go_ret;exact⟨by simp,((yv _ _).alloc (yr _) _).alloc (by simp) _⟩
    ·have I:(M == F)=false:=beq_eq_false_iff_ne.2 E;rw[yH E]
     go_enter func212,ntmps212
     go_wp2
     go_ret;refine⟨?_,((yv _ _).alloc (yr _) _).alloc (by simp) _⟩
     first
      | rfl
      | simp[I]
  ·have e2:(T == O)=false:=beq_eq_false_iff_ne.2 J;rw[yH J,Bool.false_and]
   go_enter func212,ntmps212
   go_wp2
   go_ret;exact⟨rfl,((yv _ _).alloc (yr _) _).alloc (by simp) _⟩
theorem Eg(a:OA)(c:Nat)(S:List Nd)(T M:Int)(near:Bool)(F Z:Nat)(k:Nat)(w:Wd)(hk:k<S.length)(hS:aD w a S)(J:w.cell? ⟨F,0,none⟩=some (.int .i64 T))(O:w.cell? ⟨F,1,none⟩=some (.int .i64 M))(U:w.cell? ⟨F,2,none⟩=some (.bool near))(hs:w.cell? ⟨Z,0,none⟩=some (.slice a S.length c)) :
  yO 211 #[.int .i64 (k:Int),.pointer (some ⟨F,0,none⟩),.pointer (some ⟨Z,0,none⟩)] w fun e w' => e=.returned (.bool (!zyq T M (nd S k)))/\Below w.heap.size w w' := by
 have a5:(k:Int)<(S.length:Int):=by omega
 obtain⟨b,o,rfl,c0,c1,c2,c3,c4,⟨ka,kc,c5,_⟩,c6,c7⟩:=hS k hk;have d1:=fun v W=>Ef T M near (nd S k) v W;clear hS;generalize rP T M (nd S k)=r at *;generalize nd S k=x at *;generalize S.length=n at *
 go_enter func211,ntmps211
 go_wp2_with fail
 go_region_held3 (fun E=>E.cell? ⟨F,0,none⟩=some (.int .i64 T)/\E.cell? ⟨F,1,none⟩=some (.int .i64 M)/\E.cell? ⟨F,2,none⟩=some (.bool near)/\E.cell? ⟨Z,0,none⟩=some (.slice (some ⟨b,o,none⟩) n c)/\E.cell? ⟨b,o+k*8,none⟩=some (.bool x.u)/\E.cell? ⟨b,o+k*8+1,none⟩=some (.int .i64 x.n)/\E.cell? ⟨b,o+k*8+2,none⟩=some (.int .i64 x.t)/\E.cell? ⟨b,o+k*8+3,none⟩=some (.int .i64 x.m)/\E.cell? ⟨b,o+k*8+4,none⟩=some (.int .i64 x.p)/\E.cell? ⟨b,o+k*8+5,none⟩=some (.slice ka x.ks.length kc)/\E.cell? ⟨b,o+k*8+6,none⟩=some (.int .i64 x.h)/\E.cell? ⟨b,o+k*8+7,none⟩=some (.bool x.c)) (go_keep) (first|(go_at_call 212;refine(d1 _ _).mono ?_;rintro e w2 ⟨rfl,I⟩;have D:Bl w w2:=((yv _ _).drew).trans I;have m0:=(D.cell (yi _ _ J)).trans J;have m1:=(D.cell (yi _ _ O)).trans O;have m2:=(D.cell (yi _ _ U)).trans U;have m3:=(D.cell (yi _ _ hs)).trans hs;have n0:=(D.cell (yi _ _ c0)).trans c0;have n1:=(D.cell (yi _ _ c1)).trans c1;have n2:=(D.cell (yi _ _ c2)).trans c2;have n3:=(D.cell (yi _ _ c3)).trans c3;have n4:=(D.cell (yi _ _ c4)).trans c4;have n5:=(D.cell (yi _ _ c5)).trans c5;have n6:=(D.cell (yi _ _ c6)).trans c6;have n7:=(D.cell (yi _ _ c7)).trans c7;clear I))
 all_goals go_wp2
 all_goals go_ret
 all_goals exact⟨rfl,D⟩
structure Slt where
 pl:Int
 num:Int
 gv:List Int
def mV(S:List Nd)(x:Int):Int:=(nd S x.toNat).t-90
def oQ(S:List Nd)(H:Nat)(out:List Slt)(x:Int):List Slt :=
 if mV S x<0 then out else out++[⟨x,mV S x,if out.any (fun s=>decide (s.num=mV S x)) then [] else iZ S H (mV S x)⟩]
def dM(S:List Nd)(H:Nat)(l:List Int):List Slt:=l.foldl (oQ S H) []
def fC(S:List Nd)(H:Nat):List Slt:=if dA S H = -1 then [] else dM S H (bZ S S.length (dA S H).toNat)
theorem uJ{mk x:Int}:x ∈ iZ S H mk↔x ∈ (nd S H).ks/\(nd S x.toNat).m=mk:=by
 unfold iZ;rw[BD];unfold mD;simp
theorem BK(S:List Nd)(H:Nat)(l:List Int)(x:Int):dM S H (l++[x])=oQ S H (dM S H l) x:=by
 unfold dM;rw[List.foldl_append];rfl
theorem JF{α:Type}{P:List α->Prop}(h0:P [])(h1:∀ l x,P l->P (l++[x]))(l:List α):P l:=by
 have:∀ n,∀ l:List α,l.length=n->P l:=by
  intro n
  induction n with
  | zero=>intro l hl;cases l with|nil=>exact h0|cons=>cases hl
  | succ n E =>
   intro l hl;have D:l≠[]:=(by intro e;subst e;cases hl);rw[<- List.dropLast_concat_getLast D];exact h1 _ _ (E _ (by rw[List.length_dropLast];omega))
 exact this _ l rfl
theorem JG(l:List Int):∀ s ∈ dM S H l,s.pl ∈ l/\s.num=mV S s.pl/\0<=s.num/\(s.gv=[]\/s.gv=iZ S H s.num):=by
 induction l using JF with
 | h0=>intro s hs;cases hs
 | h1 l x E =>
  intro s hs;rw[BK] at hs;unfold oQ at hs
  split at hs
  ·obtain⟨h1,D⟩:=E s hs;exact⟨List.mem_append_left _ h1,D⟩
  ·rename_i hn;rcases List.mem_append.1 hs with hs|hs
   ·obtain⟨h1,D⟩:=E s hs;exact⟨List.mem_append_left _ h1,D⟩
   ·have e:=List.mem_singleton.1 hs;subst e;refine⟨by simp,rfl,by dsimp only;omega,?_⟩;dsimp only;split
    ·exact Or.inl rfl
    ·exact Or.inr rfl
theorem SC(S:List Nd)(H:Nat)(l:List Int):(dM S H l).map Slt.pl=l.filter (fun x=>decide (0<=mV S x)):=by
 induction l using JF with
 | h0=>rfl
 | h1 l x D =>
  rw[BK,List.filter_append,<- D];unfold oQ;split
  ·rename_i h;have:¬ 0<=mV S x:=(by omega);simp[this]
  ·rename_i h;have:0<=mV S x:=(by omega);simp[this]
theorem SF(S:List Nd)(H:Nat)(l:List Int):(dM S H l).length<=l.length:=by
 have h:=congrArg List.length (SC S H l);rw[List.length_map] at h;rw[h];exact List.length_filter_le _ _
theorem Ga(S:List Nd)(H:Nat)(l:List Int):(dM S H l).Pairwise (fun s F=>F.gv=[]\/s.num≠F.num):=by
 induction l using JF with
 | h0=>exact List.Pairwise.nil
 | h1 l x I =>
  rw[BK];unfold oQ;split
  ·exact I
  ·rw[List.pairwise_append];refine⟨I,List.pairwise_singleton _ _,fun s hs F E=>?_⟩;have e:=List.mem_singleton.1 E;subst e;dsimp only;split
   ·exact Or.inl rfl
   ·rename_i D;right;intro e;exact D (List.any_eq_true.2 ⟨s,hs,yI e⟩)
theorem Gb{l:List Int}{s I:Slt}(hs:s ∈ dM S H l)(F:I ∈ dM S H l){c:Int}(hc:c ∈ s.gv)(D:c ∈ I.gv):s=I:=by
 obtain⟨_,_,_,h1⟩:=JG l s hs;obtain⟨_,_,_,h2⟩:=JG l I F;have U:s.gv≠[]:=fun e=>by rw[e] at hc;cases hc
 have Z:I.gv≠[]:=fun e=>by rw[e] at D;cases D
 have e1:=h1.resolve_left U;have e2:=h2.resolve_left Z;rw[e1] at hc;rw[e2] at D;have O:=(uJ.1 hc).2;have T:=(uJ.1 D).2;have J:=Ga S H l;obtain⟨i,hi,rfl⟩:=List.getElem_of_mem hs;obtain⟨j,M,rfl⟩:=List.getElem_of_mem F;rw[List.pairwise_iff_getElem] at J;rcases Nat.lt_trichotomy i j with E|e|E
 ·rcases J i j hi M E with h|h
  ·exact absurd h Z
  ·exact absurd (O.symm.trans T) h
 ·subst e;rfl
 ·rcases J j i M hi E with h|h
  ·exact absurd h U
  ·exact absurd (T.symm.trans O) h
def dQ(S:List Nd):Nat->Nat->List Int
 | 0,_=>[]
 | h+1,p=>match (fC S h).find? (fun s=>decide (s.pl=(p:Int))) with
  | some s=>s.gv
  | none=>dQ S h p
def oU(S:List Nd)(h:Nat)(L:List Slt)(p:Nat):List Int:=match L.find? (fun s=>decide (s.pl=(p:Int))) with
  | some s=>s.gv
  | none=>dQ S h p
theorem BL:∀ {h p:Nat} {c:Int},c ∈ dQ S h p->∃ H s,H<h/\s ∈ fC S H/\s.pl=(p:Int)/\c ∈ s.gv
 | 0,_,_,hc=>by cases hc
 | h+1,p,c,hc=>by
  unfold dQ at hc
  split at hc
  ·rename_i s hs;exact⟨h,s,by omega,List.mem_of_find?_eq_some hs,by have:=List.find?_some hs;simpa using this,hc⟩
  ·obtain⟨H,s,h1,D⟩:=BL hc;exact⟨H,s,by omega,D⟩
theorem JH:∀ {h p:Nat},dQ S h p=[]\/∃ H s,H<h/\s ∈ fC S H/\dQ S h p=s.gv
 | 0,_=>Or.inl rfl
 | h+1,p=>by
  unfold dQ;split
  ·rename_i s hs;exact Or.inr ⟨h,s,by omega,List.mem_of_find?_eq_some hs,rfl⟩
  ·rcases JH (S:=S) (h:=h) (p:=p) with e |⟨H,s,h1,D⟩
   ·exact Or.inl e
   ·exact Or.inr ⟨H,s,by omega,D⟩
theorem uK(h:WF S){s:Slt}(hs:s ∈ fC S H):∃ r k j:Nat,r<S.length/\(nd S r).h=H/\dA S H=r/\s.pl=k/\k<S.length/\Up S j k r/\s.num=mV S s.pl/\0<=s.num/\(s.gv=[]\/s.gv=iZ S H s.num)/\s ∈ dM S H (bZ S S.length r):=by
 unfold fC at hs
 split at hs
 ·cases hs
 ·rename_i I;obtain⟨r,h1,D,E,_⟩:=rR S H I;rw[D,yk] at hs;obtain⟨M,O,T,U⟩:=JG _ s hs;obtain⟨q,e,F,_,j,_,J⟩:=qD h h1 (h.deep_all h1) _ M;exact⟨r,q,j,h1,E,D,e,F,J,O,T,U,hs⟩
theorem SG(h:WF S):kZ S (dQ S S.length) where
 some:=fun p hp c hc=>by
  obtain⟨H,s,h1,F,h3,D⟩:=BL hc;obtain⟨r,k,j,r1,r2,_,r3,r4,r5,_,_,I,_⟩:=uK h F;have:k=p:=by omega
  subst this;have e:=I.resolve_left (fun e=>by rw[e] at D;cases D);rw[e] at D;exact⟨H,r,j,h1,r1,r2,r5,(uJ.1 D).1⟩
 one:=fun p p' c hp a7 hc T=>by
  obtain⟨H,s,h1,F,h3,D⟩:=BL hc;obtain⟨H', s', M,O,a6,E⟩:=BL T;obtain⟨r,_,_,r1,r2,rr,_,_,_,_,_,I,r7⟩:=uK h F;obtain⟨r', _,_,a8,a9,b0,_,_,_,_,_,U,Z⟩:=uK h O;have e:=I.resolve_left (fun e=>by rw[e] at D;cases D);have e' := U.resolve_left (fun e=>by rw[e] at E;cases E);have k1:=D;have k2:=E;rw[e] at k1;rw[e'] at k2;obtain⟨k,ek,_,_,p1,_⟩:=h.kid h1 (uJ.1 k1).1;obtain⟨k', a5,_,_,p2,_⟩:=h.kid M (uJ.1 k2).1;have:k=k' := by omega
  subst this;have:H=H' := by omega
  subst this;have:r=r' := by omega
  subst this;have:=Gb r7 Z D E;subst this;omega
 nodup:=fun p hp=>by
  rcases JH (S:=S) (h:=S.length) (p:=p) with e |⟨H,s,h1,F,e⟩
  ·rw[e];exact List.nodup_nil
  ·rw[e];obtain⟨_,_,_,_,_,_,_,_,_,_,_,I,_⟩:=uK h F;rcases I with J|J
   ·rw[J];exact List.nodup_nil
   ·rw[J];unfold iZ flt;exact(h.kids_nodup h1).filter _
theorem Gc(h:WF S):((fC S H).map Slt.pl).Nodup:=by
 unfold fC;split
 ·exact List.nodup_nil
 ·rename_i E;obtain⟨r,h1,D,_⟩:=rR S H E;rw[D,yk,SC];exact(AX h h1 (yr _) (h.deep_all h1)).filter _
theorem Gd{h:Nat}(hn:(L.map Slt.pl).Nodup)(hi:i<L.length)(p:Nat):oU S h (L.take (i+1)) p=if L[i].pl=(p:Int) then L[i].gv else oU S h (L.take i) p:=by
 unfold oU;rw[List.take_succ_eq_append_getElem hi,List.find?_append];by_cases e:L[i].pl=(p:Int)
 ·rw[ye e]
  have D:(L.take i).find? (fun s=>decide (s.pl=(p:Int)))=none:=by
   rw[List.find?_eq_none];intro s hs hd;have E:=of_decide_eq_true hd;obtain⟨j,F,rfl⟩:=List.getElem_of_mem hs;rw[List.length_take] at F;rw[List.getElem_take] at E;have:=(List.nodup_iff_pairwise_ne.1 hn);rw[List.pairwise_iff_getElem] at this;have:=this j i (by rw[List.length_map];omega) (by rw[List.length_map];omega) (by omega);rw[List.getElem_map,List.getElem_map] at this;exact this (E.trans e.symm)
  rw[D];simp[e]
 ·rw[yd e]
  cases (L.take i).find? (fun s=>decide (s.pl=(p:Int))) <;> simp[e]
theorem Gf(h:WF S){D p:Nat}(hh:D<=S.length):(dQ S D p).length<=24/\∀ c ∈ dQ S D p,∃ k:Nat,c=k/\k<S.length:=by
 have hs:=h.small;rcases JH (S:=S) (h:=D) (p:=p) with e |⟨H,s,h1,M,e⟩
 ·rw[e];exact⟨by simp,fun c hc=>by cases hc⟩
 ·rw[e];obtain⟨_,_,_,_,_,_,_,_,_,_,_,T,_⟩:=uK h M;rcases T with E|E
  ·rw[E];exact⟨by simp,fun c hc=>by cases hc⟩
  ·rw[E]
   have J:∀ c ∈ iZ S H s.num,∃ k:Nat,c=k/\k<S.length:=fun c hc=>by
    obtain⟨k,e,F,_⟩:=h.kid (by omega) (uJ.1 hc).1;exact⟨k,e,F⟩
   refine⟨?_,J⟩;have I:(iZ S H s.num).Nodup:=by unfold iZ flt;exact(h.kids_nodup (by omega)).filter _
   have:=I.length_le_of_subset (l₂:=(List.range S.length).map (fun i:Nat=>(i:Int))) (fun x O=>by
    obtain⟨k,rfl,F⟩:=J x O;exact List.mem_map.2 ⟨k,List.mem_range.2 F,rfl⟩)
   simp at this;omega
def slt(L:List Slt)(i:Nat):Slt:=L.getD i ⟨0,0,[]⟩
def nR(w:Wd)(a:OA)(L:List Slt):Prop :=
 ∀ i,i<L.length->∃ b o,a=some ⟨b,o,none⟩/\w.cell? ⟨b,o+i*3,none⟩=some (.int .i64 (slt L i).pl)/\w.cell? ⟨b,o+i*3+1,none⟩=some (.int .i64 (slt L i).num)/\∃ ga gc,w.cell? ⟨b,o+i*3+2,none⟩=some (.slice ga (slt L i).gv.length gc)/\aG w ga (slt L i).gv
theorem nR.below{w w' : World}{a:OA}(h:nR w a L)(hb:Bl w w'):nR w' a L:=fun i hi=>by
 obtain⟨b,o,e,h1,E,ga,gc,F,I⟩:=h i hi;have D:b<w.heap.size:=yi _ _ h1;exact⟨b,o,e,(hb.cell (by exact D)).trans h1,(hb.cell (by exact D)).trans E,ga,gc,(hb.cell (by exact D)).trans F,I.below hb⟩
theorem rT(h:i<L.length):slt L i=L[i]:=aJ L _ h
def JI(K:Nat)(D:Array Value)(p:Slt->Bool)(w:Wd):Prop :=
 ∀ (x:Slt) (k:Value) (w1:Wd),Bl w w1->yO K (#[.agg #[.int .i64 x.pl,.int .i64 x.num,k]] ++ D) w1 fun e w2=>e=.returned (.bool (p x))/\Below w1.heap.size w1 w2
theorem Gg(K:Nat)(E:Array Value)(p:Slt->Bool)(a:OA)(c:Nat)(L:List Slt)(w:Wd)(T:L.length<=9223372036854775807)(O:nR w a L)
  (eg:∀ args w,(callFunc K args).run prog w=.ok (.enter K args) w) (U:JI K E p w) :
  yO 226 #[.slice a L.length c,.func (.func K) #[] E] w fun e w' => ∃ r:Int,e=.returned (.int .i64 r)/\Below w.heap.size w w' /\
   ((r = -1/\∀ i,i<L.length->p (slt L i)=false)\/(∃ k:Nat,k<L.length/\r=k/\p (slt L k)=true/\∀ i,i<k->p (slt L i)=false)):=by
 have HS:Hid (nR w a L):=O;have HF:Hid (JI K E p w):=U;clear O U;generalize hn:L.length=n at *;have HN:Hid _:=hn;clear hn
 go_enter func226,ntmps226
 go_wp2
 go_loopg [8] n (fun g s8 wr=>∃ k:Nat,k<=n/\n-k<=g/\s8=.int .i64 k/\Below w.heap.size w wr/\Hid (∀ i,i<k->p (slt L i)=false))
 case atStart=>exact⟨0,by omega,by omega,rfl,yv _ _,fun i hi=>by omega⟩
 case round =>
  obtain⟨k,hk,hg,rfl,hb,A⟩:=hrel;by_cases I:k<n
  ·have Z:(k:Int)<(n:Int):=(by omega);obtain⟨b,o,rfl,c0,c1,ka,kc,c2,_⟩:=(HS.below hb) k (by rw[HN.o];exact I);have D:=fun v=>HF.o (slt L k) v wr hb
   cases hq:p (slt L k) with
   | true =>
    have J:Hid (p (slt L k)=true):=hq;rw[hq] at D;clear hq;generalize M:slt L k=x at D c0 c1 c2;clear M
    go_wp2_with (go_at_fn K;refine(D _).mono ?_;rintro e w' ⟨rfl,F⟩)
    go_ret;exact⟨k,rfl,hb.trans (F.mono hb.size),Or.inr ⟨k,I,rfl,J.o,A.o⟩⟩
   | false =>
    have J:Hid (p (slt L k)=false):=hq;rw[hq] at D;clear hq;generalize M:slt L k=x at D c0 c1 c2;clear M
    go_wp2_with (go_at_fn K;refine(D _).mono ?_;rintro e w' ⟨rfl,F⟩)
    go_roundg (n-(k+1))
    case measure=>omega
    case rel =>
     refine⟨k+1,by omega,by omega,by go_num,hb.trans (F.mono hb.size),(show Hid _ from fun i hi=>?_)⟩;by_cases e:i=k
     ·subst e;exact J.o
     ·exact A.o i (by omega)
  ·have:k=n:=(by omega);subst this
   go_wp2
   go_ret;exact⟨-1,rfl,hb,Or.inl ⟨rfl,A.o⟩⟩
theorem Gh(K:Nat)(F:Array Value)(p:Slt->Bool)(a:OA)(c:Nat)(L:List Slt)(w:Wd)(J:L.length<=9223372036854775807)(T:nR w a L)
  (Z:∀ args w,(callFunc K args).run prog w=.ok (.enter K args) w) (U:JI K F p w) :
  yO 221 #[.slice a L.length c,.func (.func K) #[] F] w fun e w' => e=.returned (.bool (L.any p))/\Below w.heap.size w w' := by
 have h:=Gg K F p a c L w J T Z U;have E:∀ k,k<L.length->p (slt L k)=true->L.any p=true:=fun k M O=>List.any_eq_true.2 ⟨slt L k,by rw[rT M];exact List.getElem_mem M,O⟩
 have D:(∀ i,i<L.length->p (slt L i)=false)->L.any p=false:=fun H=>by
  rw[List.any_eq_false];intro x hx;obtain⟨i,hi,rfl⟩:=List.getElem_of_mem hx;have:=H i hi;rw[rT hi] at this;simp[this]
 have H:Hid _:=E;have N:Hid _:=D;clear E D T U
 go_enter func221,ntmps221
 go_wp2_with (go_at_call 226;refine h.mono ?_;rintro e w' ⟨r,rfl,hb,hr⟩)
 go_ret;refine⟨?_,hb⟩;rcases hr with ⟨rfl,I⟩ |⟨k,M,rfl,O,_⟩
 ·rw[N.o I];rfl
 ·rw[H.o k M O];simp
theorem Gi(x:Slt)(k:Value)(q:Nat)(y:Int)(w:Wd)(D:w.cell? ⟨q,0,none⟩=some (.int .i64 y)) :
  yO 222 #[.agg #[.int .i64 x.pl,.int .i64 x.num,k],.pointer (some ⟨q,0,none⟩)] w fun e w' => e=.returned (.bool (decide (x.num=y)))/\Below w.heap.size w w' := by
 obtain⟨pl,num,gv⟩:=x;dsimp only;have E:=yi _ _ D;by_cases e:num=y
 ·subst e;rw[yI rfl]
  go_enter func222,ntmps222
  go_wp2
  go_ret;exact⟨rfl,(yv _ _).alloc (yr _) _⟩
 ·rw[yH e];have F:(num == y)=false:=by simpa using e
  go_enter func222,ntmps222
  go_wp2
  go_ret;exact⟨rfl,(yv _ _).alloc (yr _) _⟩
theorem Gj(a:OA)(c:Nat)(L:List Slt)(q:Nat)(y:Int)(w:Wd)(D:L.length<=9223372036854775807)(F:nR w a L)(E:w.cell? ⟨q,0,none⟩=some (.int .i64 y)) :
  yO 221 #[.slice a L.length c,.func (.func 222) #[] #[.pointer (some ⟨q,0,none⟩)]] w fun e w' => e=.returned (.bool (L.any fun s=>decide (s.num=y)))/\Below w.heap.size w w' :=
 Gh 222 _ (fun s=>decide (s.num=y)) a c L w D F (yM func222 (by kernel_rfl) rfl) (fun x k w1 h1=>Gi x k q y w1 ((h1.cell (by exact yi _ _ E)).trans E))
def LH(S T:List Nd)(P C I:Int)(hs:List (Int × Int))(E R:Int):Prop :=
 (E≠0/\R=E/\T=[]) \/
 ∃ pa D:Nat,P=pa/\C=D/\E=0/\S.length<=24/\pa<S.length/\D<S.length /\
  (mQ S D pa=false->R=6/\T=[]) /\
  (mQ S D pa=true->(∀ h ∈ hs,∃ q:Nat,h.1=q/\q<S.length) /\
   ((∃ h ∈ hs,(nd S h.1.toNat).p≠pa)->R=6/\T=[]) /\
   ((∀ h ∈ hs,(nd S h.1.toNat).p=pa)->R=0/\(∀ i,i<S.length->(nd S i).ks.length<=1000)/\T.length=S.length /\
    ((((D:Int),I) ∈ hs/\T=S) \/
    (((D:Int),I) ∉ hs/\pa≠D/\((nd S D).p = -1\/∃ F:Nat,F<S.length/\F≠D/\(nd S D).p=F) /\
     ∃ at' : Nat,atS (nd (leaveG S D) pa).ks hs=at' /\ at' <=(nd (leaveG S D) pa).ks.length/\T=dD (leaveG S D) pa D at'))))
theorem Kz(a:OA)(c:Nat)(S:List Nd)(P C I D:Int)(ha:OA)(hc:Nat)(hs:List (Int × Int))(E R:Int)(T:List Nd)(w:Wd)(hN:S.length<=9223372036854775807)(hB:Big S)(hS:aD w a S)(hH:aZ w ha hs)(hm:hs.length<=1)(hE:dH S ((P,I) ::(C,D) :: hs)=E)(hI:LH S T P C D hs E R) :
  yO 192 #[.agg #[.slice a S.length c],.agg #[.int .i64 P,.int .i64 I],.agg #[.int .i64 C,.int .i64 D],.slice ha hs.length hc] w fun e w' => ∃ a' c', e=.returned (.tuple #[.agg #[.slice a' T.length c'],.int .i64 R])/\Below w.heap.size w w' /\ ∀ w3:World,(∀ b,w.heap.size<=b->w3.heap[b]?=w'.heap[b]?)->aD w3 a' T:=by
 have df:=fun(W:Wd) (b4:OA) (g7:Nat) (hW:aD W a S) (n5:aZ W b4 ((P,I) ::(C,D) :: hs))=>tX a c S b4 g7 ((P,I) ::(C,D) :: hs) W hN hB hW (by simp;omega) n5;rw[hE] at df;have DF:Hid (∀ (W:Wd) (b4:OA) (g7:Nat),aD W a S->aZ W b4 ((P,I) ::(C,D) :: hs)->yO 185 #[.agg #[.slice a S.length c],.slice b4 (hs.length+2) g7] W fun e w' => e=.returned (.int .i64 E)/\Below W.heap.size W w'):=df;have HS:Hid (aD w a S):=hS;have HH:Hid (aZ w ha hs):=hH;obtain⟨i0,n8,p1,p2,p3⟩:=info_parts Db;clear hS hB df hE hH;obtain⟨m,g8⟩:∃ m,hs.length=m:=⟨_,rfl⟩;have HM:Hid (hs.length=m):=g8;rw[g8] at hm DF |-;have o6:¬ (1:Int)<(m:Int):=by omega
 have q2:decide ((1:Int)<(m:Int))=false:=yH o6;obtain⟨n,hn⟩:∃ n,S.length=n:=⟨_,rfl⟩;have HN:Hid (S.length=n):=hn;clear g8;have HC:Hid (LH S T P C D hs E R):=hI;rw[hn] at hN DF |-;clear hn hI
 go_enter func192,ntmps192
 go_upto_region 3 with fail
 obtain⟨W4,d7⟩:∃ W4,W4=((((w.alloc (.cells #[.slice a n c] 43)).alloc (.cells #[.int .i64 P,.int .i64 I] 61)).alloc (.cells #[.int .i64 C,.int .i64 D] 61)).alloc (.cells #[.slice none 0 0] 43)):=⟨_,rfl⟩;rw[<- d7];have d8:Below (w.heap.size+1+1+1+1) ((((w.alloc (.cells #[.slice a n c] 43)).alloc (.cells #[.int .i64 P,.int .i64 I] 61)).alloc (.cells #[.int .i64 C,.int .i64 D] 61)).alloc (.cells #[.slice none 0 0] 43)) W4:=by rw[d7];exact yv _ _
 obtain⟨l0,l1,l2,l3,l4,l5,l6⟩:=mR d8;have e6:W4.heap.size=w.heap.size+1+1+1+1:=by rw[d7];simp
 have d4:Hid (Bl w W4):=(fB _ _ _ _ _).trans (d8.mono (by omega));have d5:Hid (Below (w.heap.size+1+1+1+1) ((((w.alloc (.cells #[.slice a n c] 43)).alloc (.cells #[.int .i64 P,.int .i64 I] 61)).alloc (.cells #[.int .i64 C,.int .i64 D] 61)).alloc (.cells #[.slice none 0 0] 43)) W4):=d8;clear d7 d8
 go_cut [10] (fun s11 wx=>s11=.int .i64 E/\Hid (Below (w.heap.size+1+1+1+1) ((((w.alloc (.cells #[.slice a n c] 43)).alloc (.cells #[.int .i64 P,.int .i64 I] 61)).alloc (.cells #[.int .i64 C,.int .i64 D] 61)).alloc (.cells #[.slice none 0 0] 43)) wx))
 case first =>
  have q9:=World.new_ne W4 _ l0;have r0:=World.new_ne W4 _ l1;have r4:=World.new_ne W4 _ l2;have r5:=World.new_ne W4 _ l3;have r6:=World.new_ne W4 _ l4
  cases hs with
  | nil =>
   have e0:m=0:=HM.symm;subst e0
   cases ha with
   | none =>
    go_region_held3 (fun M=>M.cell? ⟨w.heap.size,0,none⟩=some (.slice a n c)/\M.cell? ⟨w.heap.size+1,0,none⟩=some (.int .i64 P)/\M.cell? ⟨w.heap.size+1,1,none⟩=some (.int .i64 I)/\M.cell? ⟨w.heap.size+1+1,0,none⟩=some (.int .i64 C)/\M.cell? ⟨w.heap.size+1+1,1,none⟩=some (.int .i64 D)) (go_keep) (first|(go_at_call 185;refine(DF _ _ 2 (HS.below (d4.alloc (by omega) _).drew) (QM _ _ _ _ _ _ (by go_simp) (by go_simp) (by go_simp) (by go_simp))).mono ?_;rintro e w6 ⟨rfl,b5⟩;have U:Below (w.heap.size+1+1+1+1) ((((w.alloc (.cells #[.slice a n c] 43)).alloc (.cells #[.int .i64 P,.int .i64 I] 61)).alloc (.cells #[.int .i64 C,.int .i64 D] 61)).alloc (.cells #[.slice none 0 0] 43)) w6:=(d5.alloc (by omega) _).drew.trans (b5.mono (by simp;omega));obtain⟨m0,m1,m2,m3,m4,m5,m6⟩:=mR U;have H6:Hid (Below (w.heap.size+1+1+1+1) ((((w.alloc (.cells #[.slice a n c] 43)).alloc (.cells #[.int .i64 P,.int .i64 I] 61)).alloc (.cells #[.int .i64 C,.int .i64 D] 61)).alloc (.cells #[.slice none 0 0] 43)) w6):=U;clear b5 U))
    go_wp2_with fail
    go_meet
    case rel=>exact⟨rfl,H6⟩
   | some A0 =>
    go_region_held3 (fun M=>M.cell? ⟨w.heap.size,0,none⟩=some (.slice a n c)/\M.cell? ⟨w.heap.size+1,0,none⟩=some (.int .i64 P)/\M.cell? ⟨w.heap.size+1,1,none⟩=some (.int .i64 I)/\M.cell? ⟨w.heap.size+1+1,0,none⟩=some (.int .i64 C)/\M.cell? ⟨w.heap.size+1+1,1,none⟩=some (.int .i64 D)) (go_keep) (first|(go_at_call 185;refine(DF _ _ 2 (HS.below (d4.alloc (by omega) _).drew) (QM _ _ _ _ _ _ (by go_simp) (by go_simp) (by go_simp) (by go_simp))).mono ?_;rintro e w6 ⟨rfl,b5⟩;have U:Below (w.heap.size+1+1+1+1) ((((w.alloc (.cells #[.slice a n c] 43)).alloc (.cells #[.int .i64 P,.int .i64 I] 61)).alloc (.cells #[.int .i64 C,.int .i64 D] 61)).alloc (.cells #[.slice none 0 0] 43)) w6:=(d5.alloc (by omega) _).drew.trans (b5.mono (by simp;omega));obtain⟨m0,m1,m2,m3,m4,m5,m6⟩:=mR U;have H6:Hid (Below (w.heap.size+1+1+1+1) ((((w.alloc (.cells #[.slice a n c] 43)).alloc (.cells #[.int .i64 P,.int .i64 I] 61)).alloc (.cells #[.int .i64 C,.int .i64 D] 61)).alloc (.cells #[.slice none 0 0] 43)) w6):=U;clear b5 U))
    go_wp2_with fail
    go_meet
    case rel=>exact⟨rfl,H6⟩
  | cons h t =>
   have e0:t=[]/\m=1:=by
    have h1:=HM.o;rw[List.length_cons] at h1;exact⟨List.length_eq_zero_iff.1 (by omega),by omega⟩
   obtain⟨e0,e1⟩:=e0;subst e0;subst e1;obtain⟨Q,qu⟩:=h;obtain⟨a7,a8,eh,_,_⟩:=HH.o 0 (by simp);subst eh
   have HC:Hid (∀ W,aZ W (some ⟨a7,a8,none⟩) [(Q,qu)]->W.cell? ⟨a7,a8,none⟩=some (.int .i64 Q)/\W.cell? ⟨a7,a8+1,none⟩=some (.int .i64 qu)):=fun W hW=>by
    obtain⟨b,o,e,h1,h2⟩:=hW 0 (by simp);cases e;exact⟨by simpa using h1,by simpa using h2⟩
   have e9:Hid (∀ b,some (⟨w.heap.size+1+1+1+1,0,none⟩:Addr)=some b->∀ j u,([.int .i64 P,.int .i64 I,.int .i64 C,.int .i64 D]:List Value)[j]?=some u->((W4.alloc (.cells #[.int .i64 P,.int .i64 I,.int .i64 C,.int .i64 D] 61)).drew).cell? (b.add j)=some u):=fun b hb j u hj=>by
    cases hb;rw[Addr.add_lit,<- e6]
    match j,hj with
    | 0,hj=>cases hj;go_simp
    | 1,hj=>cases hj;go_simp
    | 2,hj=>cases hj;go_simp
    | 3,hj=>cases hj;go_simp
   have j7:Hid (∀ j u,([.int .i64 Q,.int .i64 qu]:List Value)[j]?=some u->((W4.alloc (.cells #[.int .i64 P,.int .i64 I,.int .i64 C,.int .i64 D] 61)).drew).cell? ((⟨a7,a8,none⟩:Addr).add j)=some u):=fun j u hj=>by
    obtain⟨c0,c1⟩:=HC.o _ (HH.below (d4.alloc (by omega) (.cells #[.int .i64 P,.int .i64 I,.int .i64 C,.int .i64 D] 61)).drew);rw[Addr.add_lit]
    match j,hj with
    | 0,hj=>cases hj;exact c0
    | 1,hj=>cases hj;exact c1
   go_region_held3 (fun M=>M.cell? ⟨w.heap.size,0,none⟩=some (.slice a n c)/\M.cell? ⟨w.heap.size+1,0,none⟩=some (.int .i64 P)/\M.cell? ⟨w.heap.size+1,1,none⟩=some (.int .i64 I)/\M.cell? ⟨w.heap.size+1+1,0,none⟩=some (.int .i64 C)/\M.cell? ⟨w.heap.size+1+1,1,none⟩=some (.int .i64 D)) (go_keep) (first
    |(refine step_append_grows rfl (.tmp 21) (.tmp 22) 44 rfl 61 i0 (.agg #[.int .i64 0,.int .i64 0]) 2 16 underlying44 n8 p1 p2 p3 rfl (by decide) (some ⟨w.heap.size+1+1+1+1,0,none⟩) 2 2 [.int .i64 P,.int .i64 I,.int .i64 C,.int .i64 D] rfl (fun h=>by cases h) rfl e9.o ⟨a7,a8,none⟩ 1 hc [.int .i64 Q,.int .i64 qu] rfl rfl j7.o (by intro u hu;simp at hu;rcases hu with rfl|rfl <;> rfl) (by decide) (by decide) (by decide) ?_;intro v5 w5 c7 b0;have U:Below (w.heap.size+1+1+1+1) ((((w.alloc (.cells #[.slice a n c] 43)).alloc (.cells #[.int .i64 P,.int .i64 I] 61)).alloc (.cells #[.int .i64 C,.int .i64 D] 61)).alloc (.cells #[.slice none 0 0] 43)) w5:=(d5.alloc (by omega) _).drew.grown b0 (by simp;omega) (fun k hk=>by cases hk);obtain⟨k0,k1,k2,k3,k4,k5,k6⟩:=mR U;obtain⟨n7,p6,p0,l8⟩:=Dz c7;subst p0;have n2:Hid (aZ w5 n7 [(P,I),(C,D),(Q,qu)]):=l8;have H5:Hid (Below (w.heap.size+1+1+1+1) ((((w.alloc (.cells #[.slice a n c] 43)).alloc (.cells #[.int .i64 P,.int .i64 I] 61)).alloc (.cells #[.int .i64 C,.int .i64 D] 61)).alloc (.cells #[.slice none 0 0] 43)) w5):=U;clear c7 b0 U l8)
    |(go_at_call 185;refine(DF _ _ _ (HS.below ((fB _ _ _ _ _).trans (H5.mono (by omega)))) n2.o).mono ?_;rintro e w6 ⟨rfl,k8⟩;have m8:=H5.size;simp only[yw] at m8;have g4:Below (w.heap.size+1+1+1+1) ((((w.alloc (.cells #[.slice a n c] 43)).alloc (.cells #[.int .i64 P,.int .i64 I] 61)).alloc (.cells #[.int .i64 C,.int .i64 D] 61)).alloc (.cells #[.slice none 0 0] 43)) w6:=H5.trans (k8.mono m8);obtain⟨m0,m1,m2,m3,m4,m5,m6⟩:=mR g4;have H6:Hid (Below (w.heap.size+1+1+1+1) ((((w.alloc (.cells #[.slice a n c] 43)).alloc (.cells #[.int .i64 P,.int .i64 I] 61)).alloc (.cells #[.int .i64 C,.int .i64 D] 61)).alloc (.cells #[.slice none 0 0] 43)) w6):=g4;clear k8 g4))
   go_wp2_with fail
   go_meet
   case rel=>exact⟨rfl,H6⟩
 case rest =>
 obtain⟨rfl,H6⟩:=hcut;clear l0 l1 l2 l3 l4 l5 l6 e6 d4 d5 DF;obtain⟨w6,rfl⟩:∃ W,W=wc:=⟨_,rfl⟩;obtain⟨m0,m1,m2,m3,m4,m5,m6⟩:=mR H6.o;have n9:=HC.o;clear HC;rcases n9 with ⟨d6,hR,hT⟩ |⟨pa,O,rfl,rfl,d6,e3,hpa,hch,hX,hY⟩
 ·have hz:(E == 0)=false:=by simp[d6]
  have q8:decide (E=0)=false:=yH d6;have HR:Hid _:=hR;have HT:Hid (T=[]):=hT;clear hR hT
  go_wp2_with fail
  refine yz (v:=.tuple #[.agg #[.slice none 0 0],.int .i64 E]) (by simp[results,results192,go_sem,m5]) rfl ⟨none,⟨0,by rw[HR.o,HT.o];rfl⟩,?_,fun w3 _=>by rw[HT.o];exact fun _ hi=>absurd hi (yB _)⟩;exact((fB _ _ _ _ _).trans (H6.mono (by omega))).setCell (by simp;omega) _
 ·subst d6;have hX:Hid _:=hX;have hY:Hid _:=hY;clear hN;have hN:=e3;have b2:Hid _:=fun(W:Wd) (hW:aD W a S)=>Ck a c S O pa W (by omega) hch hW;clear e3;rw[HN.o] at hN hpa hch b2;have J:Bl w w6:=(fB _ _ _ _ _).trans (H6.mono (by omega));by_cases hfit:mQ S O pa=false
  ·rw[hfit] at b2;obtain⟨rfl,rfl⟩:=hX.o hfit;clear hX hY
   go_wp2_with (go_at_call 205;refine(b2 _ (HS.below J)).mono ?_;rintro e w7 ⟨rfl,a5⟩;have Z:=H6.size;simp only[yw] at Z;have b1:Below (w.heap.size+1+1+1+1) ((((w.alloc (.cells #[.slice a n c] 43)).alloc (.cells #[.int .i64 (pa:Int),.int .i64 I] 61)).alloc (.cells #[.int .i64 (O:Int),.int .i64 D] 61)).alloc (.cells #[.slice none 0 0] 43)) w7:=H6.trans (a5.mono Z);obtain⟨j0,j1,j2,j3,j4,j5,j6⟩:=mR b1;have H7:Hid (Below (w.heap.size+1+1+1+1) ((((w.alloc (.cells #[.slice a n c] 43)).alloc (.cells #[.int .i64 (pa:Int),.int .i64 I] 61)).alloc (.cells #[.int .i64 (O:Int),.int .i64 D] 61)).alloc (.cells #[.slice none 0 0] 43)) w7):=b1;clear a5 b1 Z)
   refine yz (v:=.tuple #[.agg #[.slice none 0 0],.int .i64 6]) (by simp[results,results192,go_sem,j5]) rfl ⟨none,0,rfl,?_,fun _ _ _ hi=>absurd hi (yB _)⟩;exact((fB _ _ _ _ _).trans (H7.mono (by omega))).setCell (by simp;omega) _
  ·have hfit:mQ S O pa=true:=(by simpa using hfit);rw[hfit] at b2;obtain⟨hQ,hA,hK⟩:=hY.o hfit;have g0:Hid _:=hQ;have HA:Hid _:=hA;have e8:Hid _:=hK;rw[HN.o] at g0;clear hfit hQ hA hK hY hX
   go_wp2_with (go_at_call 205;refine(b2 _ (HS.below J)).mono ?_;rintro e w7 ⟨rfl,a5⟩;have Z:=H6.size;simp only[yw] at Z;have b1:Below (w.heap.size+1+1+1+1) ((((w.alloc (.cells #[.slice a n c] 43)).alloc (.cells #[.int .i64 (pa:Int),.int .i64 I] 61)).alloc (.cells #[.int .i64 (O:Int),.int .i64 D] 61)).alloc (.cells #[.slice none 0 0] 43)) w7:=H6.trans (a5.mono Z);have H7:Hid (Below (w.heap.size+1+1+1+1) ((((w.alloc (.cells #[.slice a n c] 43)).alloc (.cells #[.int .i64 (pa:Int),.int .i64 I] 61)).alloc (.cells #[.int .i64 (O:Int),.int .i64 D] 61)).alloc (.cells #[.slice none 0 0] 43)) w7):=b1;clear a5 b1 Z)
   clear m0 m1 m2 m3 m4 m5 m6 J
   go_loopg [39] 1 (fun g1 s39 wr=>∃ k:Nat,k<=m/\m-k<=g1/\s39=.int .i64 k/\Hid (Below (w.heap.size+1+1+1+1) ((((w.alloc (.cells #[.slice a n c] 43)).alloc (.cells #[.int .i64 (pa:Int),.int .i64 I] 61)).alloc (.cells #[.int .i64 (O:Int),.int .i64 D] 61)).alloc (.cells #[.slice none 0 0] 43)) wr)/\Hid (0<k->∀ h ∈ hs,(nd S h.1.toNat).p=pa))
   case atStart=>exact⟨0,by omega,by omega,rfl,H7,(fun h=>absurd h (Nat.lt_irrefl _):0<0->∀ h ∈ hs,(nd S h.1.toNat).p=pa)⟩
   case round =>
    clear H7;obtain⟨k,hk,p7,rfl,H6,A⟩:=hrel;have J:Bl w wr:=(fB _ _ _ _ _).trans (H6.mono (by omega));have Z:=H6.size;simp only[yw] at Z;obtain⟨j0,j1,j2,j3,j4,j5,j6⟩:=mR H6.o;by_cases q1:k<m
    ·have o5:m=1:=(by omega);have o0:k=0:=(by omega);subst o0;subst o5
     obtain⟨h,c9⟩:∃ h,hs=[h]:=by
      cases hs with
      | nil=>exact absurd HM.o (by simp)
      | cons x t =>
       have h1:=HM.o;rw[List.length_cons] at h1;have ht:t=[]:=List.length_eq_zero_iff.1 (by omega);exact⟨x,by rw[ht]⟩
     obtain⟨q,g9,o8⟩:=g0.o h (by rw[c9];simp);obtain⟨a7,a8,eh,b7,e2⟩:=(HH.below J) 0 (by rw[c9];simp);rw[c9] at b7 e2;simp only[List.getD_cons_zero] at b7 e2;rw[g9] at b7;subst eh;have x0:wr.cell? ⟨a7,a8,none⟩=some (.int .i64 (q:Int)):=(by simpa using b7);have x1:wr.cell? ⟨a7,a8+1,none⟩=some (.int .i64 h.2):=(by simpa using e2);obtain⟨b,o,ea,_,_,_,_,qp,_⟩:=(HS.below J) q (by rw[HN.o];exact o8);subst ea;clear b7 e2 A;have q3:(q:Int)<(n:Int):=(by omega);have d9:=yi _ _ qp;have q7:=yi _ _ x0;have J0:=nO j0;have J1:=nO j1;have J5:=nO j5;have q0:=yi _ _ j5;by_cases c8:(nd S q).p=(pa:Int)
     ·have NX:Hid (0<(1:Nat)->∀ h ∈ hs,(nd S h.1.toNat).p=pa):=fun _ h' hh=>by
       rw[c9,List.mem_singleton] at hh;rw[hh,g9,yk];exact c8
      rw[c8] at qp;have QQ:=nO qp;clear c8
      go_wp2_with fail
      go_quiet (fail)
      go_wp2_with fail
      go_roundg 0
      case measure=>omega
      case rel=>exact⟨1,by omega,by omega,by go_num,Below.drewNs (H6.alloc (by omega) _) _,NX⟩
     ·obtain⟨rfl,rfl⟩:=HA.o ⟨h,by rw[c9];simp,by rw[g9,yk];exact c8⟩;clear e8 HA;generalize (nd S q).p=pq at *;have q4:(pq ==(pa:Int))=false:=beq_eq_false_iff_ne.2 c8;have QQ:=nO qp
      go_wp2_with fail
      go_quiet (fail)
      go_wp2_with fail
      refine yz (v:=.tuple #[.agg #[.slice none 0 0],.int .i64 6]) (by simp[results,results192,go_sem,J5]) rfl ⟨none,0,rfl,?_,fun _ _ _ hi=>absurd hi (yB _)⟩;exact(Below.drewNs (J.alloc J.size _) _).setCell (by simp;omega) _
    ·have o2:k=m:=by omega
     have m7:∀ h ∈ hs,(nd S h.1.toNat).p=pa:=by
      cases hs with
      | nil=>exact fun _ hh=>by cases hh
      | cons x t =>
       have:=HM.o;rw[List.length_cons] at this;exact A.o (by omega)
     subst o2;obtain⟨rfl,j8,m9,hK⟩:=e8.o m7;have i9:Hid (T.length=n):=(m9.trans HN:T.length=n);have DC:Hid _:=fun(W:Wd) (hW:aD W a S)=>copy_any a c S W (by rw[HN.o];exact hN) j8 hW;have DH:Hid _:=fun(W:Wd) (hW:aZ W ha hs)=>Dc ha hc hs (O:Int) D W (by rw[HM.o];omega) hW
     have OC:Hid (∀ (wr:Wd) (B g:Nat) (kb kc:Nat->Nat),Own wr B g S kb kc S.length->B<=g/\g<wr.heap.size/\(∀ b,AO g S.length kb b->g<=b/\b<wr.heap.size)):=fun wr B g kb kc h=>by
      obtain⟨hB,F,hF,n6,hg,_⟩:=h;refine⟨hB,hF.lt,fun b hb=>?_⟩;rcases hb with rfl |⟨i,hi,rfl⟩
      ·exact⟨yr _,hF.lt⟩
      ·exact⟨Nat.le_of_lt (hg i hi),(n6 i hi).row⟩
     obtain⟨bb,d9⟩:∃ bb,decide (((O:Int),D) ∈ hs)=bb:=⟨_,rfl⟩;have h7:Hid _:=d9;rw[d9,HM.o] at DH;rw[HN.o] at DC OC;have h9:Hid _:=hK;clear A m7 e8 HA hK j8 m9 d9 g0
     go_wp2_with fail
     refine(DC _ (HS.below J)).mono ?_;rintro e w7 ⟨g,kb,kc,rfl,a5,g5⟩;obtain⟨p8,p9,l7⟩:=OC.o _ _ _ _ _ g5;have HX:Hid (∀ b,AO g n kb b->g<=b/\b<w7.heap.size):=l7;clear l7;have q5:=a5.size;have H7:Hid (Below (w.heap.size+1+1+1+1) ((((w.alloc (.cells #[.slice a n c] 43)).alloc (.cells #[.int .i64 (pa:Int),.int .i64 I] 61)).alloc (.cells #[.int .i64 (O:Int),.int .i64 D] 61)).alloc (.cells #[.slice none 0 0] 43)) w7):=H6.trans (a5.mono Z);have n3:Hid (Own w7 wr.heap.size g S kb kc n):=g5;obtain⟨i0,i1,i2,i3,i4,i5,i6⟩:=mR H7.o;have M7:Hid (∀ w8 o1,Below (w7.heap.size+1) (w7.alloc o1) w8->Below (w.heap.size+1+1+1+1) ((((w.alloc (.cells #[.slice a n c] 43)).alloc (.cells #[.int .i64 (pa:Int),.int .i64 I] 61)).alloc (.cells #[.int .i64 (O:Int),.int .i64 D] 61)).alloc (.cells #[.slice none 0 0] 43)) w8/\Below w7.heap.size w7 w8):=fun w8 o1 h=>⟨(H7.alloc (by omega) o1).trans (h.mono (by omega)),((yv _ _).alloc (yr _) o1).trans (h.mono (by omega))⟩;have I3:=nO i3;have I4:=nO i4;clear j0 j1 j2 j3 j4 j5 j6 a5 g5
     go_wp2_with fail
     refine(DH _ (HH.below (((fB _ _ _ _ _).trans (H7.mono (by omega))).alloc (by omega) _))).mono ?_;rintro e w8 ⟨rfl,b6⟩;simp only[yw] at b6;have b8:w8.cell? ⟨w7.heap.size,0,none⟩=some (.slice (some ⟨g,0,none⟩) n n):=PT b6;obtain⟨H8,k9⟩:=M7.o _ _ b6;have o9:=b6.size;simp only[yw] at o9;have h8:Hid (Below (w.heap.size+1+1+1+1) ((((w.alloc (.cells #[.slice a n c] 43)).alloc (.cells #[.int .i64 (pa:Int),.int .i64 I] 61)).alloc (.cells #[.int .i64 (O:Int),.int .i64 D] 61)).alloc (.cells #[.slice none 0 0] 43)) w8):=H8;have i8:Hid (Own w8 wr.heap.size g S kb kc n):=Own.below n3 k9;clear i0 i1 i2 i3 i4 i5 i6 b6 I3 I4;obtain⟨i0,i1,i2,i3,i4,i5,i6⟩:=mR H8;clear H8;have o4:=h9.o;clear h9;rcases o4 with ⟨c6,hT⟩ |⟨c6,o7,l9,at', k7,e4,hT⟩
     ·have g6:bb=true:=h7.symm.trans (yI c6);subst g6;have HT:Hid (T=S):=hT;clear c6 hT;have n1:Hid (Bl w w8):=(fB _ _ _ _ _).trans (h8.mono (by omega));have NS:Hid (∀ v (w3:Wd),(∀ b,g<=b->w3.heap[b]?=(w8.setCell ⟨w.heap.size+1+1+1,0,none⟩ v).heap[b]?)->aD w3 (some ⟨g,0,none⟩) S):=fun v w3 h4=>Own.up (kb:=kb) (kc:=kc) (B:=wr.heap.size) (by rw[HN.o];exact i8.o) _ (fun b hb=>(h4 b hb).trans (yx _ _ _ _ (by show b≠w.heap.size+1+1+1;omega)))
      go_wp2_with fail
      refine yz (v:=.tuple #[.agg #[.slice (some ⟨g,0,none⟩) n n],.int .i64 0]) (by simp[results,results192,go_sem,i5]) rfl ⟨some ⟨g,0,none⟩,n,by rw[i9.o],n1.setCell (by simp;omega) _,fun w3 h3=>by rw[HT.o];exact NS.o _ w3 (fun b hb=>h3 b (by have:=J.size;omega))⟩
     ·have g6:bb=false:=h7.symm.trans (yH c6);subst g6;have HT:Hid (T=dD (leaveG S O) pa O at'):=hT;have DE:Hid _:=fun(B g c:Nat) (kb kc:Nat->Nat) (W:Wd) (hO:Own W B g (leaveG S O) kb kc (leaveG S O).length) (hW:aZ W ha hs)=>Cw B g c (leaveG S O) kb kc pa O at' ha hc hs W hO (by rw[oM,HN.o];exact hpa) (by rw[oM,HN.o];exact hch) o7 (by rw[HM.o];exact hm) hW k7 e4;have DL:Hid _:=fun(B g c:Nat) (kb kc:Nat->Nat) (W:Wd) (hO:Own W B g S kb kc S.length)=>Da B g c S kb kc O W hO (by rw[HN.o];exact hch) l9;simp only[oM,HN.o,HM.o] at DE DL
      have OP:Hid (∀ g kb b,b=g\/b=kb pa->AO g n kb b):=fun g kb b hb=>by
       rcases hb with hb|hb
       ·exact Or.inl hb
       ·exact Or.inr ⟨pa,hpa,hb⟩
      clear c6 hT l9 k7 e4
      go_wp2_with fail
      refine(DL _ g n kb kc _ i8.o).mono ?_;rintro e w9 ⟨rfl,a6,j9⟩;have q6:=a6.size;have b9:=(a6.cell (yi _ _ b8) (fun h=>by have:=HX.o _ h;simp at this)).trans b8;have H9:Below (w.heap.size+1+1+1+1) ((((w.alloc (.cells #[.slice a n c] 43)).alloc (.cells #[.int .i64 (pa:Int),.int .i64 I] 61)).alloc (.cells #[.int .i64 (O:Int),.int .i64 D] 61)).alloc (.cells #[.slice none 0 0] 43)) w9:=h8.trans (a6.below (by omega) (fun k hk=>by have:=HX.o _ hk;omega));have n4:Hid (Own w9 wr.heap.size g (leaveG S O) kb kc n):=j9;have e7:Hid (Below (w.heap.size+1+1+1+1) ((((w.alloc (.cells #[.slice a n c] 43)).alloc (.cells #[.int .i64 (pa:Int),.int .i64 I] 61)).alloc (.cells #[.int .i64 (O:Int),.int .i64 D] 61)).alloc (.cells #[.slice none 0 0] 43)) w9):=H9;clear i0 i1 i2 i3 i4 i5 i6 b8 a6 j9;obtain⟨i0,i1,i2,i3,i4,i5,i6⟩:=mR H9;clear H9
      go_wp2_with fail
      refine(DE _ g n kb kc _ n4.o (HH.below ((fB _ _ _ _ _).trans (e7.mono (by omega))))).mono ?_;rintro e n0 ⟨rfl,a9,e5⟩;have b3:∀ b,b=g\/b=kb pa->g<=b/\b<w7.heap.size:=fun b hb=>HX.o b (OP g kb b hb);have p5:=(a9.cell (yi _ _ b9) (fun h=>by have:=b3 _ h;simp at this)).trans b9;have p4:=(a9.cell (yi _ _ i5) (fun h=>by have:=b3 _ h;dsimp only at this;omega)).trans i5;have f10:=fun o=>(a9.frozen (p:=⟨w.heap.size+1+1+1,o,none⟩) (yi w9 ⟨w.heap.size+1+1+1,0,none⟩ i5) (fun h=>by have:=b3 _ h;dsimp only at this;omega)).trans (i6 o);have i7:Hid _:=e5;have h6:Hid (Bl w n0):=((fB _ _ _ _ _).trans (e7.mono (by omega))).trans (a9.below (by have:=e7.size;simp at this;omega) (fun k hk=>by have:=b3 _ hk;omega));have NS:Hid (∀ v (w3:Wd),(∀ b,g<=b->w3.heap[b]?=(n0.setCell ⟨w.heap.size+1+1+1,0,none⟩ v).heap[b]?)->aD w3 (some ⟨g,0,none⟩) (dD (leaveG S O) pa O at')):=fun v w3 h4=>i7.o _ (fun b hb=>(h4 b hb).trans (yx _ _ _ _ (by show b≠w.heap.size+1+1+1;omega)));clear e5 a9 i0 i1 i2 i3 i4 i5 i6 b9 b3
      go_wp2_with fail
      refine yz (v:=.tuple #[.agg #[.slice (some ⟨g,0,none⟩) n n],.int .i64 0]) (by simp[results,results192,go_sem,p4]) rfl ⟨some ⟨g,0,none⟩,n,by rw[i9.o],h6.setCell (by simp;omega) _,fun w3 h3=>by rw[HT.o];exact NS.o _ w3 (fun b hb=>h3 b (by have:=J.size;omega))⟩
