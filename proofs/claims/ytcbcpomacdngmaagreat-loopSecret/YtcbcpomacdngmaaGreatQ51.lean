/-
  x
-/
import Derived.Test.YtcbcpomacdngmaaGreatQ31
import Derived.WalkSpells
namespace Go.Proofs.YtcbcpomacdngmaaGreat
set_option maxRecDepth 100000
set_option maxHeartbeats 4000000
set_option linter.unusedVariables false
open Go.RowKit
theorem zww:(Tryz.prog.info? 34).map (fun i=>(i.zero,i.size,i.bytes))=some (some (.slice none 0 0),1,24):=by kernel_rfl
theorem zqJ(J:Option Addr)(n cap:Nat)(E:List Value)(w:World)(hn:n<=1000)(hl:E.length=n*1)(h0:J=none->n=0/\cap=0)(hc:∀ j u,E[j]?=some u->∃ b o,J=some ⟨b,o,none⟩/\w.cell? ⟨b,o+j,none⟩=some u)(h1:∀ u ∈ E,u.oneCell' = true) :
  Calls Tryz.prog 12 #[.slice J n cap] w fun e w' => ∃ v2,e=.returned v2/\Below w.heap.size w w' /\ w'.ownsRow w.heap.size 34 1 v2 n E:=by
 obtain⟨i0,Z,a5,a6,a7⟩:=info_parts zww;have a8:=fun(W:World) n c n' c' => Lib.run_eql_slice_nil (P:=Tryz.prog) W 24 34 J n c n' c' Tryz.underlying24
 cases J with
 | none =>
  obtain⟨rfl,rfl⟩:=h0 rfl;have U:E=[]:=List.eq_nil_of_length_eq_zero (by simpa using hl);subst U;clear hc h1
  go_enter Tryz.func12,Tryz.ntmps12
  go_wp2_with fail
  go_ret;exact⟨_,rfl,yr _ _,World.ownsRow_nil _ _ _ _⟩
 | some ad =>
  obtain⟨g,o,sp⟩:=ad
  have O:Hid (∀ o1,∀ j u,E[j]?=some u->(w.alloc o1).cell? ((⟨g,o,sp⟩:Addr).add j)=some u):=fun o1 j u hj=>by
   obtain⟨b,o', e,I⟩:=hc j u hj;cases e;rw[Addr.add_lit];exact zab I (zaa w o1)
  have T:Hid (∀ u ∈ E,u.oneCell' = true):=h1;have M:Hid (E.length=n*1):=hl;clear hc h1 hl h0
  go_enter Tryz.func12,Tryz.ntmps12
  go_wp2_with (at_builtin;refine wpList_append_own _ rfl _ _ 24 rfl w.heap.size 34 i0 (.slice none 0 0) 1 24 Tryz.underlying24 Z a5 a6 a7 rfl (by decide) (.slice (some ⟨w.heap.size,0,none⟩) 0 0) 0 [] rfl ?c0 ⟨g,o,sp⟩ n cap E rfl M.out (O.out _) T.out ?c3 ?c4 ?c5 ?_)
  case c0=>exact⟨by simp,Or.inr ⟨w.heap.size,0,#[],rfl,yk _,yL w _,by omega,by unfold maxLen;omega,by simp,by simp⟩⟩
  case c3=>unfold maxLen;omega
  case c4=>omega
  case c5=>simp
  intro v2 w2 F D _;have OW:Hid (w2.ownsRow w.heap.size 34 1 v2 n E):=(show w2.ownsRow _ _ _ _ _ _ from by simpa using F);have BB:Hid (Below w.heap.size w w2):=(zaa w _).trans ⟨D.os,D.tape,D.output,D.size,fun k hk=>D.block k (by simp;omega) (fun e=>by have:k=w.heap.size:=Option.some.inj e;omega)⟩;clear F D
  go_wp2
  go_ret;exact⟨_,rfl,BB.out,OW.out⟩
def setP(W:Wl)(k:Nat)(p:List Ac):Wl:={ W with ps:=W.ps.set k p }
theorem zan.setP{W:Wl}(H:zan W){k:Nat}{p:List Ac}(E:p.length<=40)(D:k<W.fs.length):zan (setP W k p) :=
 ⟨H.fs,H.lr,by show (W.ps.set k p).length=_;rw[List.length_set];exact H.lp,H.lq,H.rs,fun i hi=>by
  show ((W.ps.set k p).getD i []).length<=40;rw[zba _ _ _ _ _ (by rw[H.lp];exact D)];split
  ·exact E
  ·exact H.ps i hi,H.qs,H.pt⟩
theorem zkh.row{w:World}{a:Option Addr}{P:List (List Ac)}{c:Nat}(h:zkh w a P)(hs:SlA a P.length c):∃ K:Nat->Value,(∀ i,i<P.length->∃ pa pc,K i=.slice pa (pg P i).length pc/\zbs w pa (pg P i))/\∀ j u,((List.range P.length).map K)[j]?=some u->∃ b o,a=some ⟨b,o,none⟩/\w.cell? ⟨b,o+j,none⟩=some u:=by
 have E:∀ i,∃ v:Value,i<P.length->∃ b o pa pc,a=some ⟨b,o,none⟩/\w.cell? ⟨b,o+i,none⟩=some v/\v=.slice pa (pg P i).length pc/\zbs w pa (pg P i):=fun i=>by
  by_cases hi:i<P.length
  ·obtain⟨b,o,pa,pc,e,hc,ha⟩:=h i hi;exact⟨_,fun _=>⟨b,o,pa,pc,e,hc,rfl,ha⟩⟩
  ·exact⟨.slice none 0 0,fun h=>absurd h hi⟩
 refine⟨fun i=>Classical.choose (E i),fun i hi=>?_,fun j u D=>?_⟩
 ·obtain⟨b,o,pa,pc,e,hc,F,ha⟩:=Classical.choose_spec (E i) hi;exact⟨pa,pc,F,ha⟩
 ·rw[List.getElem?_map] at D;by_cases hi:j<P.length
  ·rw[List.getElem?_range hi] at D;cases D;obtain⟨b,o,pa,pc,e,hc,F,ha⟩:=Classical.choose_spec (E j) hi;exact⟨b,o,e,hc⟩
  ·rw[List.getElem?_eq_none (by simpa using hi)] at D;cases D
theorem zql{w w1:World}{P:List (List Ac)}{K:Nat->Value}{g B n cap k q qc:Nat}{p:List Ac}(hn:P.length=n)(hK:∀ i,i<P.length->∃ pa pc,K i=.slice pa (pg P i).length pc/\zbs w pa (pg P i))(ho:w1.ownsRow B 34 1 (.slice (some ⟨g,0,none⟩) n cap) n ((List.range n).map K))(hk:k<n){M:World}(Z:Below w.heap.size w M)(hq:zbs M (some ⟨q,0,none⟩) p)(hg:∀ D t,w1.heap[g]?=some (.cells D t (0,0))->M.heap[g]?=some (.cells (D.setIfInBounds k (.slice (some ⟨q,0,none⟩) p.length qc)) t (0,0))):zkh M (some ⟨g,0,none⟩) (P.set k p):=by
 subst hn;rcases ho.2 with ⟨e,_⟩ |⟨g', U,D,e,_,J,a5,_,a6,T⟩
 ·cases e
 cases e;have F:=hg _ _ J;intro i hi;rw[List.length_set] at hi
 have I:D[i]?=some (K i):=by
  have h5:(D.toList.take (P.length*1))[i]?=some (K i):=by rw[T,List.getElem?_map,List.getElem?_range hi];rfl
  rw[List.getElem?_take,yd (by omega)] at h5;simpa using h5
 by_cases e:i=k
 ·subst e;refine⟨g,0,some ⟨q,0,none⟩,qc,rfl,?_,?_⟩
  ·have E:pg (P.set i p) i=p:=by unfold pg;rw[zae _ _ (by rw[List.length_set];exact hi),List.getElem_set_self]
   rw[E,yB];have O:i<D.size:=(Array.getElem?_eq_some_iff.1 I).1;simp[World.cell?,F,O]
  ·have E:pg (P.set i p) i=p:=by unfold pg;rw[zae _ _ (by rw[List.length_set];exact hi),List.getElem_set_self]
   rw[E];exact hq
 ·obtain⟨pa,pc,hv,ha⟩:=hK i hi;have E:pg (P.set k p) i=pg P i:=by unfold pg;exact zhf P k i p [] e
  refine⟨g,0,pa,pc,rfl,?_,?_⟩
  ·rw[E,yB,<- hv];simp only[World.cell?,F];rw[Array.getElem?_setIfInBounds_ne (Ne.symm e)];exact I
  ·rw[E];exact ha.below Z
theorem zxe{W:Wl}{k:Nat}{x:Ac}(H:zan W)(D:k<W.fs.length)(h:zcp (setP W k [x]) k true=0):zbz (setP W k [x]) k true=doW k (zbc (setP W k [x]) k true) x:=by
 unfold zbz;rw[yd h,yj]
 have:prg (setP W k [x]) k=[x]:=by
  show (W.ps.set k [x]).getD k []=_;rw[zae _ _ (by rw[List.length_set,H.lp];exact D),List.getElem_set_self]
 rw[this];rfl
theorem zxC{W:Wl}{k:Nat}{x:Ac}(H:zan W)(D:k<W.fs.length)(h:zcp (setP W k [x]) k true=0):(rlm (zbz (setP W k [x]) k true) k).t=(rlm W k).t++[toldOf (zdv (zbc (setP W k [x]) k true) k x)]:=by
 have H2:=H.setP (k:=k) (p:=[x]) (by simp) D;have E:zan (zbc (setP W k [x]) k true):=zeF H2 D true (fun h=>by cases h);rw[zxe H D h];unfold doW
 have F:k<(zdv (zbc (setP W k [x]) k true) k x).w.rs.length:=by
  rw[(zmy E D x).lr,zsF];exact D
 rw[zjV F];show (rlm (zdv (zbc (setP W k [x]) k true) k x).w k).t ++ _=_;rw[zlr E D x,zea (by rw[H2.lr];exact D)];rfl
def zfL(W:Wl)(k a:Nat)(b:Int):Int :=
 if (fr W.fs a).g=true then -5 else if (fr W.fs a).o≠(fr W.fs k).o then -7 else if ¬ isH b then -4 else if zaz (rlm W a).s (hd (rlm W a) b).1 (hd (rlm W a) b).2=0 then (nd (rlm W a).s (hd (rlm W a) b).1.toNat).m else -zaz (rlm W a).s (hd (rlm W a) b).1 (hd (rlm W a) b).2
theorem zpo{W:Wl}{k a:Nat}{b:Int}(H:zan W)(D:k<W.fs.length)(ha:a<W.fs.length)(h:zcp (setP W k [⟨12,a,b,0,0⟩]) k true=0):(rlm (zbz (setP W k [⟨12,a,b,0,0⟩]) k true) k).t=(rlm W k).t++[zfL W k a b]:=by
 have H2:=H.setP (k:=k) (p:=[⟨12,a,b,0,0⟩]) (by simp) D;have F:zan (zbc (setP W k [⟨12,a,b,0,0⟩]) k true):=zeF H2 D true (fun h=>by cases h);obtain⟨_,q,e,_,hg,_⟩:=zbW h;have I:q=k:=by omega
 subst I;rw[zxC H D h,zrN F D hg ha]
 have hs:(rlm (zbc (setP W q [⟨12,a,b,0,0⟩]) q true) a).s=(rlm W a).s/\(rlm (zbc (setP W q [⟨12,a,b,0,0⟩]) q true) a).hs=(rlm W a).hs:=by
  by_cases E:a=q
  ·subst E;rw[zea (by rw[H2.lr];exact D)];exact⟨rfl,rfl⟩
  ·rw[zeE (by rw[H2.lr];exact D) true E];exact⟨rfl,rfl⟩
 have hh:hd (rlm (zbc (setP W q [⟨12,a,b,0,0⟩]) q true) a) b=hd (rlm W a) b:=by unfold hd;rw[hs.2]
 rw[hs.1,hh];rfl
theorem zof{W:World}{b t:Nat}{D v1 v2 E F I J M:Value}(h:W.heap[b]?=some (.cells #[D,v1,v2,E,F,I,J,M] t (0,0))):W.cell? ⟨b,0,none⟩=some D/\W.cell? ⟨b,1,none⟩=some v1/\W.cell? ⟨b,2,none⟩=some v2/\W.cell? ⟨b,3,none⟩=some E/\W.cell? ⟨b,4,none⟩=some F/\W.cell? ⟨b,5,none⟩=some I/\W.cell? ⟨b,6,none⟩=some J/\W.cell? ⟨b,7,none⟩=some M/\(∀ o,W.frozen? ⟨b,o,none⟩=false)/\b<W.heap.size :=
 ⟨by simp[World.cell?,h],by simp[World.cell?,h],by simp[World.cell?,h],by simp[World.cell?,h],by simp[World.cell?,h],by simp[World.cell?,h],by simp[World.cell?,h],by simp[World.cell?,h],fun o=>by simp[World.frozen?,h],zay h⟩
theorem zfd(n0 n1 n2 n3 n4:Nat)(E:Int)(k a b:Int)(a0 a1 a2 a3 a4:Option Addr)(c0 c1 c2 c3 c4:Nat)(w:World)(hE:E≠0\/E=0/\n0=0)(DT:Hid (∀ V:World,Calls Tryz.prog 9 #[] V fun e w' => e=.returned (.bool true)/\Below V.heap.size V w'))
  (DK:Hid (∀ V,Below w.heap.size w V->Calls Tryz.prog 10 #[.agg #[.slice a0 n0 c0,.slice a1 n1 c1,.slice a2 n2 c2,.slice a3 n3 c3,.slice a4 n4 c4]] V fun e w' => e=.returned (.int .i64 E)/\Below V.heap.size V w')) :
  Calls Tryz.prog 5 #[.agg #[.slice a0 n0 c0,.slice a1 n1 c1,.slice a2 n2 c2,.slice a3 n3 c3,.slice a4 n4 c4],.int .i64 k,.int .i64 a,.int .i64 b] w fun e w' => e=.returned (.bool true)/\Below w.heap.size w w' := by
 rcases hE with hE |⟨rfl,rfl⟩
 ·
  go_enter Tryz.func5,Tryz.ntmps5
  go_wp2_with fail
  refine yi (DT.out _) ?_;rintro e w1 ⟨rfl,D⟩;have I:Hid (w1.heap[w.heap.size]?=some (.cells #[.slice a0 n0 c0,.slice a1 n1 c1,.slice a2 n2 c2,.slice a3 n3 c3,.slice a4 n4 c4] 28 (0,0))):=zat (yL w _) D;have F:Hid (Below w.heap.size w w1):=(zaa w _).trans (D.mono (by simp));clear D;obtain⟨J,M,O,T,U,Z,pl⟩:=zao I.out
  go_wp2_with fail
  refine yi (DK.out _ F.out) ?_;rintro e w2 ⟨rfl,D⟩;have B2:Hid (Below w.heap.size w w2):=F.out.trans (D.mono F.out.size);have K2:Hid _:=zat I.out D;clear J M O T U Z pl D I;obtain⟨J,M,O,T,U,Z,pl⟩:=zao K2.out
  go_wp2_with fail
  refine yi (DT.out _) ?_;rintro e w3 ⟨rfl,D⟩;have B3:Hid (Below w.heap.size w w3):=B2.out.trans (D.mono B2.out.size);clear D J M O T U Z pl
  go_wp2
  go_ret;exact⟨rfl,B3.out⟩
 ·
  go_enter Tryz.func5,Tryz.ntmps5
  go_wp2_with fail
  refine yi (DT.out _) ?_;rintro e w1 ⟨rfl,D⟩;have I:Hid (w1.heap[w.heap.size]?=some (.cells #[.slice a0 0 c0,.slice a1 n1 c1,.slice a2 n2 c2,.slice a3 n3 c3,.slice a4 n4 c4] 28 (0,0))):=zat (yL w _) D;have F:Hid (Below w.heap.size w w1):=(zaa w _).trans (D.mono (by simp));clear D;obtain⟨J,M,O,T,U,Z,pl⟩:=zao I.out
  go_wp2_with fail
  refine yi (DK.out _ F.out) ?_;rintro e w2 ⟨rfl,D⟩;have B2:Hid (Below w.heap.size w w2):=F.out.trans (D.mono F.out.size);have K2:Hid _:=zat I.out D;clear J M O T U Z pl D I;obtain⟨J,M,O,T,U,Z,pl⟩:=zao K2.out
  go_wp2_with fail
  refine yi (DT.out _) ?_;rintro e w3 ⟨rfl,D⟩;have B3:Hid (Below w.heap.size w w3):=B2.out.trans (D.mono B2.out.size);clear D J M O T U Z pl
  go_wp2
  go_ret;exact⟨rfl,B3.out⟩
theorem zrX(E:Int)(W:Wl)(n n4:Nat)(a0 a1 a2 a3 a4:Option Addr)(c0 c1 c2 c3 c4:Nat)(w:World)(DT:Hid (∀ V:World,Calls Tryz.prog 9 #[] V fun e w' => e=.returned (.bool true)/\Below V.heap.size V w'))
  (DK:Hid (∀ V,Below w.heap.size w V->Calls Tryz.prog 10 #[.agg #[.slice a0 n c0,.slice a1 n c1,.slice a2 n c2,.slice a3 n c3,.slice a4 n4 c4]] V fun e w' => e=.returned (.int .i64 0)/\Below V.heap.size V w')) (k a b:Int) (T aa:Nat) (a8:Hid (∀ w:World,Calls Tryz.prog 11 #[.int .i64 k,.int .i64 n] w fun e w' => e=.returned (.int .i64 (T:Int))/\w' = w)) (a9:Hid (∀ w:World,Calls Tryz.prog 11 #[.int .i64 a,.int .i64 n] w fun e w' => e=.returned (.int .i64 (aa:Int))/\w' = w)) (K:Nat->Value)
  (DC:Hid (∀ V,Below w.heap.size w V->Calls Tryz.prog 12 #[.slice a2 n c2] V fun e w' => ∃ F D,e=.returned (.slice (some ⟨F,0,none⟩) n D)/\n<=D/\D<=9223372036854775807/\Below V.heap.size V w' /\ V.heap.size<=F/\w'.ownsRow V.heap.size 34 1 (.slice (some ⟨F,0,none⟩) n D) n ((List.range n).map K)))
  (e2:0<n) (d4:T<n) (d9:aa<n) (e4:n<=8) (hW:Hid (zdF w ⟨a0,a1,a2,a3,a4,c0,c1,c2,c3,c4⟩ W)) (hC:Hid (WlC ⟨a0,a1,a2,a3,a4,c0,c1,c2,c3,c4⟩ W)) (HK:Hid ((∀ i,i<W.ps.length->∃ pa pc,K i=.slice pa (pg W.ps i).length pc/\zbs w pa (pg W.ps i))/\W.ps.length=n))
  (DS:Hid (∀ (F D:Nat) V,WlC ⟨a0,a1,some ⟨F,0,none⟩,a3,a4,c0,c1,D,c3,c4⟩ (setP W T [⟨12,aa,b,0,0⟩])->zdF V ⟨a0,a1,some ⟨F,0,none⟩,a3,a4,c0,c1,D,c3,c4⟩ (setP W T [⟨12,aa,b,0,0⟩])->Calls Tryz.prog 13 #[.agg #[.slice a0 n c0,.slice a1 n c1,.slice (some ⟨F,0,none⟩) n D,.slice a3 n c3,.slice a4 n4 c4],.agg #[.int .i64 T,.bool true]] V fun e w' => ∃ (f0 f1 f2 f3 f4:Option Addr) (g0 g1 g2 g3 g4:Nat),e=.returned (.tuple #[.agg #[.slice f0 0 g0,.slice f1 0 g1,.slice f2 0 g2,.slice f3 0 g3,.slice f4 0 g4],.int .i64 E])/\Below V.heap.size V w'))
  (hE:¬ E=0) :
  Calls Tryz.prog 5 #[.agg #[.slice a0 n c0,.slice a1 n c1,.slice a2 n c2,.slice a3 n c3,.slice a4 n4 c4],.int .i64 k,.int .i64 a,.int .i64 b] w fun e w' => e=.returned (.bool true)/\Below w.heap.size w w' := by
 have e3:¬ ((n:Int)=0):=by omega
 have e1:(T:Int)<n:=by omega
 have d8:(aa:Int)<n:=by omega
 have b0:Hid (∀ (x:Int) (y:Nat),(x=k/\y=T\/x=a/\y=aa)->∀ w:World,Calls Tryz.prog 11 #[.int .i64 x,.int .i64 n] w fun e w' => e=.returned (.int .i64 (y:Int))/\w' = w):=fun x y h V=>by
  rcases h with ⟨rfl,rfl⟩ |⟨rfl,rfl⟩
  ·exact a8.out V
  ·exact a9.out V
 clear a8 a9
 go_enter Tryz.func5,Tryz.ntmps5
 go_wp2_with fail
 refine yi (DT.out _) ?_;rintro e w1 ⟨rfl,U⟩;have K1:Hid (w1.heap[w.heap.size]?=some (.cells #[.slice a0 n c0,.slice a1 n c1,.slice a2 n c2,.slice a3 n c3,.slice a4 n4 c4] 28 (0,0))):=zat (yL w _) U;have B1:Hid (Below w.heap.size w w1):=(zaa w _).trans (U.mono (by simp));clear U;obtain⟨p0,p1,p2,p3,p4,pf,pl⟩:=zao K1.out
 go_wp2_with fail
 refine yi (DK.out _ B1.out) ?_;rintro e w2 ⟨rfl,U⟩;have B2:Hid (Below w.heap.size w w2):=B1.out.trans (U.mono B1.out.size);have K2:Hid _:=zat K1.out U;clear p0 p1 p2 p3 p4 pf pl U K1 B1 DT DK;obtain⟨p0,p1,p2,p3,p4,pf,pl⟩:=zao K2.out
 go_upto_region 3 with fail
 go_big_quiet (first|(go_at_call 11;exact Calls.quiet_of_same (b0.out _ _ (by first|exact Or.inl ⟨rfl,rfl⟩|exact Or.inr ⟨rfl,rfl⟩) _)))
 obtain⟨w3,a6⟩:∃ w3,w2.drewN nq=w3:=⟨_,rfl⟩;rw[a6];have B3:Hid (Below w.heap.size w w3):=by rw[<- a6];exact Below.drewNs B2.out nq
 have K3:Hid (w3.heap[w.heap.size]?=some (.cells #[.slice a0 n c0,.slice a1 n c1,.slice a2 n c2,.slice a3 n c3,.slice a4 n4 c4] 28 (0,0))):=by rw[<- a6];exact K2.out
 clear a6 p0 p1 p2 p3 p4 pf pl K2 B2 b0;obtain⟨p0,p1,p2,p3,p4,pf,pl⟩:=zao K3.out
 go_wp2_with fail
 refine yi (DC.out _ (B3.out.alloc B3.out.size _)) ?_;rintro e J ⟨F,D,rfl,c7,c8,U,b5,a5⟩;have Z:Below (w3.heap.size+1) (w3.alloc (.cells #[.slice a0 n c0,.slice a1 n c1,.slice a2 n c2,.slice a3 n c3,.slice a4 n4 c4] 28)) J:=by simpa using U
 have e0:w3.heap.size+1<=F:=by simpa using b5
 have d5:w3.heap.size<J.heap.size:=by have:=Z.size;simp at this;omega
 have c9:F<J.heap.size:=by
  rcases a5.2 with ⟨e,_⟩ |⟨g', b3,M,e,_,I,_⟩
  ·cases e
  ·cases e;exact zay I
 have b1:Hid _:=Z;have OW:Hid _:=a5;have K9:Hid (J.heap[w3.heap.size]?=some (.cells #[.slice a0 n c0,.slice a1 n c1,.slice a2 n c2,.slice a3 n c3,.slice a4 n4 c4] 28 (0,0))):=(Z.block _ (by omega)).trans (yL w3 _);have K4:Hid (J.heap[w.heap.size]?=some (.cells #[.slice a0 n c0,.slice a1 n c1,.slice a2 n c2,.slice a3 n c3,.slice a4 n4 c4] 28 (0,0))):=zat (zat K3.out (zaa _ _)) (Z.mono (by simp));clear U b5 a5 Z p0 p1 p2 p3 p4 pf DC;obtain⟨p0,p1,p2,p3,p4,pf,d6⟩:=zao K4.out;obtain⟨q0,q1,q2,q3,q4,qf,ql⟩:=zao K9.out
 have b9:∃ M,J.heap[F]?=some (.cells M 34 (0,0))/\M.size=D:=by
  rcases OW.out.2 with ⟨e,_⟩ |⟨g', b3,M,e,_,I,_,_,b6,_⟩
  ·cases e
  ·cases e;exact⟨M,I,by omega⟩
 obtain⟨M,I,b4⟩:=b9;have b2:Hid _:=I
 have a7:∃ v,J.cell? ⟨F,T,none⟩=some v:=by
  have:T<M.size:=by omega
  exact⟨M[T],by simp[World.cell?,I,this]⟩
 obtain⟨gv,gc⟩:=a7;have gf:∀ o,J.frozen? ⟨F,o,none⟩=false:=fun o=>by simp[World.frozen?,I]
 have c6:Hid (M.size=D):=b4;have d1:¬ F=w3.heap.size:=by omega
 have d2:¬ w3.heap.size=F:=by omega
 have d3:¬ w.heap.size=w3.heap.size:=by omega
 clear I b4
 go_upto_region 7 with fail
 obtain⟨w5,O⟩:∃ w5,(((J.setCell ⟨w3.heap.size,2,none⟩ (.slice (some ⟨F,0,none⟩) n D)).setCell ⟨F,T,none⟩ (.slice (some ⟨J.heap.size,0,none⟩) 1 1)).alloc (.cells #[.int .i64 12,.int .i64 aa,.int .i64 b,.int .i64 0,.int .i64 0] 36))=w5:=⟨_,rfl⟩;rw[O];have d7:J.heap.size<w5.heap.size:=by rw[<- O];simp
 have B4:Hid (Below w.heap.size w J):=(B3.out.alloc B3.out.size _).trans (b1.out.mono (by have:=B3.out.size;omega));have b7:w.heap.size<=w3.heap.size:=B3.out.size
 have B5:Hid (Below w.heap.size w w5):=by
  rw[<- O];exact((B4.out.setCell b7 _).setCell (by show w.heap.size<=F;omega) _).alloc (by have:=B4.out.size;simp;omega) _
 have b8:∀ c,c<J.heap.size->c≠w3.heap.size->c≠F->w5.heap[c]?=J.heap[c]?:=fun c h1 h2 h3=>by
  rw[<- O,Below.heap_alloc _ _ _ (by simpa using h1),yv _ _ _ _ h3,yv _ _ _ _ h2]
 have K5:Hid (w5.heap[w.heap.size]?=some (.cells #[.slice a0 n c0,.slice a1 n c1,.slice a2 n c2,.slice a3 n c3,.slice a4 n4 c4] 28 (0,0))):=(b8 _ (by omega) (by omega) (by omega)).trans K4.out
 have V5:Hid (w5.heap[w3.heap.size]?=some (.cells #[.slice a0 n c0,.slice a1 n c1,.slice (some ⟨F,0,none⟩) n D,.slice a3 n c3,.slice a4 n4 c4] 28 (0,0))):=by
  rw[<- O];exact(Below.heap_alloc _ _ _ (by simpa using d5)).trans ((yv _ _ _ _ (by omega)).trans (zaL (i:=2) K9.out))
 have P5:Hid (zdF w5 ⟨a0,a1,some ⟨F,0,none⟩,a3,a4,c0,c1,D,c3,c4⟩ (setP W T [⟨12,aa,b,0,0⟩])):=by
  obtain⟨hK,hlen⟩:=HK.out;refine⟨hW.out.fs.below B5.out,hW.out.rs.below B5.out,zql (w:=w) (w1:=J) (q:=J.heap.size) (qc:=1) hlen hK OW.out d4 B5.out (fun i hi=>?_) (fun M t h=>?_),hW.out.qs.below B5.out,hW.out.pt.below B5.out⟩
  ·obtain rfl:i=0:=by have:i<1:=hi;omega
   rw[<- O];have b6:(((J.setCell ⟨w3.heap.size,2,none⟩ (.slice (some ⟨F,0,none⟩) n D)).setCell ⟨F,T,none⟩ (.slice (some ⟨J.heap.size,0,none⟩) 1 1))).heap.size=J.heap.size:=by simp
   have hx:=fun j v (hv:(#[.int .i64 12,.int .i64 aa,.int .i64 b,.int .i64 0,.int .i64 0]:Array Value)[j]?=some v)=>zad (((J.setCell ⟨w3.heap.size,2,none⟩ (.slice (some ⟨F,0,none⟩) n D)).setCell ⟨F,T,none⟩ (.slice (some ⟨J.heap.size,0,none⟩) 1 1))) _ 36 j hv;rw[b6] at hx;exact⟨J.heap.size,0,rfl,hx 0 _ rfl,hx 1 _ rfl,hx 2 _ rfl,hx 3 _ rfl,hx 4 _ rfl⟩
  ·rw[<- O];exact(Below.heap_alloc _ _ _ (by simpa using c9)).trans (zaL (i:=T) ((yv _ _ _ _ d1).trans h))
 have C5:Hid (WlC ⟨a0,a1,some ⟨F,0,none⟩,a3,a4,c0,c1,D,c3,c4⟩ (setP W T [⟨12,aa,b,0,0⟩])):=by
  obtain⟨hK,hlen⟩:=HK.out;exact⟨hC.out.s0,hC.out.s1,⟨(fun e=>by cases e),by show (W.ps.set T _).length<=_;rw[List.length_set,hlen];exact c7,c8⟩,hC.out.s3,hC.out.s4⟩
 clear O b8 B4 K4 K9 OW b2 c6 gc gf p0 p1 p2 p3 p4 pf d6 q0 q1 q2 q3 q4 qf ql b1;obtain⟨q0,q1,q2,q3,q4,qf,ql⟩:=zao V5.out
 go_wp2_with fail
 refine yi (DS.out F D _ C5.out P5.out) ?_;rintro e w6 ⟨f0,f1,f2,f3,f4,g0,g1,g2,g3,g4,rfl,U⟩;have B6:Hid (Below w.heap.size w w6):=B5.out.trans (U.mono B5.out.size);clear U
 go_wp2
 go_ret;exact⟨rfl,B6.out.alloc B6.out.size _⟩
theorem zpn(Z:Wl)(m4 TL:Nat)(TT:Int)(W:Wl)(n n4:Nat)(a0 a1 a2 a3 a4:Option Addr)(c0 c1 c2 c3 c4:Nat)(w:World)(DT:Hid (∀ V:World,Calls Tryz.prog 9 #[] V fun e w' => e=.returned (.bool true)/\Below V.heap.size V w'))
  (DK:Hid (∀ V,Below w.heap.size w V->Calls Tryz.prog 10 #[.agg #[.slice a0 n c0,.slice a1 n c1,.slice a2 n c2,.slice a3 n c3,.slice a4 n4 c4]] V fun e w' => e=.returned (.int .i64 0)/\Below V.heap.size V w')) (k a b:Int) (T I:Nat) (e5:Hid (∀ w:World,Calls Tryz.prog 11 #[.int .i64 k,.int .i64 n] w fun e w' => e=.returned (.int .i64 (T:Int))/\w' = w)) (e6:Hid (∀ w:World,Calls Tryz.prog 11 #[.int .i64 a,.int .i64 n] w fun e w' => e=.returned (.int .i64 (I:Int))/\w' = w)) (K:Nat->Value)
  (DC:Hid (∀ V,Below w.heap.size w V->Calls Tryz.prog 12 #[.slice a2 n c2] V fun e w' => ∃ M D,e=.returned (.slice (some ⟨M,0,none⟩) n D)/\n<=D/\D<=9223372036854775807/\Below V.heap.size V w' /\ V.heap.size<=M/\w'.ownsRow V.heap.size 34 1 (.slice (some ⟨M,0,none⟩) n D) n ((List.range n).map K)))
  (m0:0<n) (e2:T<n) (i1:I<n) (m2:n<=8) (hW:Hid (zdF w ⟨a0,a1,a2,a3,a4,c0,c1,c2,c3,c4⟩ W)) (hC:Hid (WlC ⟨a0,a1,a2,a3,a4,c0,c1,c2,c3,c4⟩ W)) (HK:Hid ((∀ i,i<W.ps.length->∃ pa pc,K i=.slice pa (pg W.ps i).length pc/\zbs w pa (pg W.ps i))/\W.ps.length=n))
  (DS:Hid (∀ (M D:Nat) V,WlC ⟨a0,a1,some ⟨M,0,none⟩,a3,a4,c0,c1,D,c3,c4⟩ (setP W T [⟨12,I,b,0,0⟩])->zdF V ⟨a0,a1,some ⟨M,0,none⟩,a3,a4,c0,c1,D,c3,c4⟩ (setP W T [⟨12,I,b,0,0⟩])->Calls Tryz.prog 13 #[.agg #[.slice a0 n c0,.slice a1 n c1,.slice (some ⟨M,0,none⟩) n D,.slice a3 n c3,.slice a4 n4 c4],.agg #[.int .i64 T,.bool true]] V fun e w' => ∃ (f0 f1 f2 f3 f4:Option Addr) (g0 g1 g2 g3 g4:Nat),e=.returned (.tuple #[.agg #[.slice f0 n g0,.slice f1 n g1,.slice f2 n g2,.slice f3 n g3,.slice f4 m4 g4],.int .i64 0])/\Below V.heap.size V w' /\ zdF w' ⟨f0,f1,f2,f3,f4,g0,g1,g2,g3,g4⟩ Z))
  (hZ:Hid (Z.rs.length=n/\(rl Z.rs T).t.length=TL+1/\(rl Z.rs T).t.getD TL 0=TT)) (l5:TL<=5000) (i6:Hid (W.fs.length=n)) (k3:Hid (W.rs.length=n)) (h6:Hid ((rl W.rs I).hs.length=16)) (GG:Bool) (O1 O2:Int) (hG:Hid ((fr W.fs I).g=GG)) (j8:Hid ((fr W.fs I).o=O1)) (j9:Hid ((fr W.fs T).o=O2)) (FE MK:Int) (l4:0<=FE/\FE<=100)
  (DF:Hid (∀ (sa:Option Addr) (sc:Nat) (x1 x2:Int) V,isH b->x1=(hd (rl W.rs I) b).1->x2=(hd (rl W.rs I) b).2->zai V sa (rl W.rs I).s->Calls Tryz.prog 14 #[.agg #[.slice sa (rl W.rs I).s.length sc],.agg #[.int .i64 x1,.int .i64 x2]] V fun e w' => ∃ (x:Nd) (ka:Option Addr) (kl kc:Nat),e=.returned (.tuple #[.agg #[.bool x.u,.int .i64 x.n,.int .i64 x.t,.int .i64 x.m,.int .i64 x.p,.slice ka kl kc,.int .i64 x.h,.bool x.c],.int .i64 FE])/\Below V.heap.size V w' /\(FE=0->x.m=MK)))
  (e1:(GG=true/\TT = -5)\/(GG=false/\O1≠O2/\TT = -7)\/(GG=false/\O1=O2/\¬ isH b/\TT = -4)\/(GG=false/\O1=O2/\isH b/\FE=0/\TT=MK)\/(GG=false/\O1=O2/\isH b/\FE≠0/\TT = -FE)) :
  Calls Tryz.prog 5 #[.agg #[.slice a0 n c0,.slice a1 n c1,.slice a2 n c2,.slice a3 n c3,.slice a4 n4 c4],.int .i64 k,.int .i64 a,.int .i64 b] w fun e w' => e=.returned (.bool true)/\Below w.heap.size w w' := by
 have m1:¬ ((n:Int)=0):=by omega
 have l9:(T:Int)<n:=by omega
 have l6:(I:Int)<n:=by omega
 have e7:Hid (∀ (x:Int) (y:Nat),(x=k/\y=T\/x=a/\y=I)->∀ w:World,Calls Tryz.prog 11 #[.int .i64 x,.int .i64 n] w fun e w' => e=.returned (.int .i64 (y:Int))/\w' = w):=fun x y h V=>by
  rcases h with ⟨rfl,rfl⟩ |⟨rfl,rfl⟩
  ·exact e5.out V
  ·exact e6.out V
 clear e5 e6
 go_enter Tryz.func5,Tryz.ntmps5
 go_wp2_with fail
 refine yi (DT.out _) ?_;rintro e w1 ⟨rfl,hb⟩;have K1:Hid (w1.heap[w.heap.size]?=some (.cells #[.slice a0 n c0,.slice a1 n c1,.slice a2 n c2,.slice a3 n c3,.slice a4 n4 c4] 28 (0,0))):=zat (yL w _) hb;have B1:Hid (Below w.heap.size w w1):=(zaa w _).trans (hb.mono (by simp));clear hb;obtain⟨p0,p1,p2,p3,p4,pf,pl⟩:=zao K1.out
 go_wp2_with fail
 refine yi (DK.out _ B1.out) ?_;rintro e w2 ⟨rfl,hb⟩;have B2:Hid (Below w.heap.size w w2):=B1.out.trans (hb.mono B1.out.size);have K2:Hid _:=zat K1.out hb;clear p0 p1 p2 p3 p4 pf pl hb K1 B1 DT DK;obtain⟨p0,p1,p2,p3,p4,pf,pl⟩:=zao K2.out
 go_upto_region 3 with fail
 go_big_quiet (first|(go_at_call 11;exact Calls.quiet_of_same (e7.out _ _ (by first|exact Or.inl ⟨rfl,rfl⟩|exact Or.inr ⟨rfl,rfl⟩) _)))
 obtain⟨w3,c6⟩:∃ w3,w2.drewN nq=w3:=⟨_,rfl⟩;rw[c6];have B3:Hid (Below w.heap.size w w3):=by rw[<- c6];exact Below.drewNs B2.out nq
 have K3:Hid (w3.heap[w.heap.size]?=some (.cells #[.slice a0 n c0,.slice a1 n c1,.slice a2 n c2,.slice a3 n c3,.slice a4 n4 c4] 28 (0,0))):=by rw[<- c6];exact K2.out
 clear c6 p0 p1 p2 p3 p4 pf pl K2 B2 e7;obtain⟨p0,p1,p2,p3,p4,pf,pl⟩:=zao K3.out
 go_wp2_with fail
 refine yi (DC.out _ (B3.out.alloc B3.out.size _)) ?_;rintro e U ⟨M,D,rfl,i3,i4,hb,i8,b8⟩;have b5:Below (w3.heap.size+1) (w3.alloc (.cells #[.slice a0 n c0,.slice a1 n c1,.slice a2 n c2,.slice a3 n c3,.slice a4 n4 c4] 28)) U:=by simpa using hb
 have k2:w3.heap.size+1<=M:=by simpa using i8
 have j1:w3.heap.size<U.heap.size:=by have:=b5.size;simp at this;omega
 have i7:M<U.heap.size:=by
  rcases b8.2 with ⟨e,_⟩ |⟨g', g9,a5,e,_,O,_⟩
  ·cases e
  ·cases e;exact zay O
 have g6:Hid _:=b5;have OW:Hid _:=b8;have K9:Hid (U.heap[w3.heap.size]?=some (.cells #[.slice a0 n c0,.slice a1 n c1,.slice a2 n c2,.slice a3 n c3,.slice a4 n4 c4] 28 (0,0))):=(b5.block _ (by omega)).trans (yL w3 _);have K4:Hid (U.heap[w.heap.size]?=some (.cells #[.slice a0 n c0,.slice a1 n c1,.slice a2 n c2,.slice a3 n c3,.slice a4 n4 c4] 28 (0,0))):=zat (zat K3.out (zaa _ _)) (b5.mono (by simp));clear hb i8 b8 b5 p0 p1 p2 p3 p4 pf DC;obtain⟨p0,p1,p2,p3,p4,pf,k8⟩:=zao K4.out;obtain⟨q0,q1,q2,q3,q4,qf,ql⟩:=zao K9.out
 have j6:∃ a5,U.heap[M]?=some (.cells a5 34 (0,0))/\a5.size=D:=by
  rcases OW.out.2 with ⟨e,_⟩ |⟨g', g9,a5,e,_,O,_,_,j2,_⟩
  ·cases e
  ·cases e;exact⟨a5,O,by omega⟩
 obtain⟨a5,O,i5⟩:=j6;have g7:Hid _:=O
 have d9:∃ v,U.cell? ⟨M,T,none⟩=some v:=by
  have:T<a5.size:=by omega
  exact⟨a5[T],by simp[World.cell?,O,this]⟩
 obtain⟨gv,gc⟩:=d9;have gf:∀ o,U.frozen? ⟨M,o,none⟩=false:=fun o=>by simp[World.frozen?,O]
 have j7:Hid (a5.size=D):=i5;have d1:¬ M=w3.heap.size:=by omega
 have d2:¬ w3.heap.size=M:=by omega
 have d3:¬ w.heap.size=w3.heap.size:=by omega
 clear O i5
 go_upto_region 7 with fail
 obtain⟨w5,a8⟩:∃ w5,(((U.setCell ⟨w3.heap.size,2,none⟩ (.slice (some ⟨M,0,none⟩) n D)).setCell ⟨M,T,none⟩ (.slice (some ⟨U.heap.size,0,none⟩) 1 1)).alloc (.cells #[.int .i64 12,.int .i64 I,.int .i64 b,.int .i64 0,.int .i64 0] 36))=w5:=⟨_,rfl⟩;rw[a8];have j4:U.heap.size<w5.heap.size:=by rw[<- a8];simp
 have B4:Hid (Below w.heap.size w U):=(B3.out.alloc B3.out.size _).trans (g6.out.mono (by have:=B3.out.size;omega));have j3:w.heap.size<=w3.heap.size:=B3.out.size
 have B5:Hid (Below w.heap.size w w5):=by
  rw[<- a8];exact((B4.out.setCell j3 _).setCell (by show w.heap.size<=M;omega) _).alloc (by have:=B4.out.size;simp;omega) _
 have j5:∀ c,c<U.heap.size->c≠w3.heap.size->c≠M->w5.heap[c]?=U.heap[c]?:=fun c h1 h2 h3=>by
  rw[<- a8,Below.heap_alloc _ _ _ (by simpa using h1),yv _ _ _ _ h3,yv _ _ _ _ h2]
 have K5:Hid (w5.heap[w.heap.size]?=some (.cells #[.slice a0 n c0,.slice a1 n c1,.slice a2 n c2,.slice a3 n c3,.slice a4 n4 c4] 28 (0,0))):=(j5 _ (by omega) (by omega) (by omega)).trans K4.out
 have V5:Hid (w5.heap[w3.heap.size]?=some (.cells #[.slice a0 n c0,.slice a1 n c1,.slice (some ⟨M,0,none⟩) n D,.slice a3 n c3,.slice a4 n4 c4] 28 (0,0))):=by
  rw[<- a8];exact(Below.heap_alloc _ _ _ (by simpa using j1)).trans ((yv _ _ _ _ (by omega)).trans (zaL (i:=2) K9.out))
 have P5:Hid (zdF w5 ⟨a0,a1,some ⟨M,0,none⟩,a3,a4,c0,c1,D,c3,c4⟩ (setP W T [⟨12,I,b,0,0⟩])):=by
  obtain⟨hK,hlen⟩:=HK.out;refine⟨hW.out.fs.below B5.out,hW.out.rs.below B5.out,zql (w:=w) (w1:=U) (q:=U.heap.size) (qc:=1) hlen hK OW.out e2 B5.out (fun i hi=>?_) (fun a5 t h=>?_),hW.out.qs.below B5.out,hW.out.pt.below B5.out⟩
  ·obtain rfl:i=0:=by have:i<1:=hi;omega
   rw[<- a8];have j2:(((U.setCell ⟨w3.heap.size,2,none⟩ (.slice (some ⟨M,0,none⟩) n D)).setCell ⟨M,T,none⟩ (.slice (some ⟨U.heap.size,0,none⟩) 1 1))).heap.size=U.heap.size:=by simp
   have hx:=fun j v (hv:(#[.int .i64 12,.int .i64 I,.int .i64 b,.int .i64 0,.int .i64 0]:Array Value)[j]?=some v)=>zad (((U.setCell ⟨w3.heap.size,2,none⟩ (.slice (some ⟨M,0,none⟩) n D)).setCell ⟨M,T,none⟩ (.slice (some ⟨U.heap.size,0,none⟩) 1 1))) _ 36 j hv;rw[j2] at hx;exact⟨U.heap.size,0,rfl,hx 0 _ rfl,hx 1 _ rfl,hx 2 _ rfl,hx 3 _ rfl,hx 4 _ rfl⟩
  ·rw[<- a8];exact(Below.heap_alloc _ _ _ (by simpa using i7)).trans (zaL (i:=T) ((yv _ _ _ _ d1).trans h))
 have C5:Hid (WlC ⟨a0,a1,some ⟨M,0,none⟩,a3,a4,c0,c1,D,c3,c4⟩ (setP W T [⟨12,I,b,0,0⟩])):=by
  obtain⟨hK,hlen⟩:=HK.out;exact⟨hC.out.s0,hC.out.s1,⟨(fun e=>by cases e),by show (W.ps.set T _).length<=_;rw[List.length_set,hlen];exact i3,i4⟩,hC.out.s3,hC.out.s4⟩
 clear a8 j5 B4 K4 K9 OW g7 j7 gc gf p0 p1 p2 p3 p4 pf k8 q0 q1 q2 q3 q4 qf ql g6;obtain⟨q0,q1,q2,q3,q4,qf,ql⟩:=zao V5.out
 go_wp2_with fail
 refine yi (DS.out M D _ C5.out P5.out) ?_;rintro e w6 ⟨f0,f1,f2,f3,f4,g0,g1,g2,g3,g4,rfl,hb,hz⟩;have d5:Hid (Below w5.heap.size w5 w6):=hb;have Z6:Hid (zdF w6 ⟨f0,f1,f2,f3,f4,g0,g1,g2,g3,g4⟩ Z):=hz;clear hb hz P5 C5 DS q0 q1 q2 q3 q4 qf ql d1 d2 d3 HK i3 i4 k2 j1 i7 j4
 go_upto_region 10 with fail
 obtain⟨w7,c7⟩:∃ w7,w6.alloc (.cells #[.slice f0 n g0,.slice f1 n g1,.slice f2 n g2,.slice f3 n g3,.slice f4 m4 g4] 28)=w7:=⟨_,rfl⟩;rw[c7];have d7:Hid (Below w6.heap.size w6 w7):=by rw[<- c7];exact zaa _ _
 have g8:Hid (w7.heap[w6.heap.size]?=some (.cells #[.slice f0 n g0,.slice f1 n g1,.slice f2 n g2,.slice f3 n g3,.slice f4 m4 g4] 28 (0,0))):=by rw[<- c7];exact yL _ _
 have d6:Hid (Below w5.heap.size w5 w7):=d5.out.trans (d7.out.mono d5.out.size);have e8:Hid (Below w.heap.size w w7):=B5.out.trans (d6.out.mono B5.out.size);clear c7;obtain⟨q0,q1,q2,q3,q4,qf,ql⟩:=zao g8.out;obtain⟨rb,ro,A,er,r0,r1,r2,r3,hr⟩:=(Z6.out.below d7.out).rs T (by rw[hZ.out.1];exact e2);dsimp only at er;subst er;obtain⟨tb,m9,et,t0⟩:=hr.2.2.2 TL (by rw[hZ.out.2.1];omega);rw[hZ.out.2.1,et] at r3;rw[hZ.out.2.2] at t0;clear r0 r1 r2 hr et;have h7:IntKind.i64.wrap (TL:Int)=TL:=by rw[yI];omega
 have h8:IntKind.i64.wrap ((TL:Int)+1-1)=TL:=by rw[yI];omega
 have h9:(TL:Int)<(TL:Int)+1:=by omega
 have i0:(0:Int)<=TL:=by omega
 go_big_quiet (fail)
 obtain⟨w8,c8⟩:∃ w8,w7.drewN nq=w8:=⟨_,rfl⟩;rw[c8];have J:Hid (Below w.heap.size w w8):=by rw[<- c8];exact Below.drewNs e8.out nq
 have K8:Hid (w8.heap[w.heap.size]?=some (.cells #[.slice a0 n c0,.slice a1 n c1,.slice a2 n c2,.slice a3 n c3,.slice a4 n4 c4] 28 (0,0))):=by rw[<- c8];exact zat K5.out (zbB d6.out nq)
 clear c8 q0 q1 q2 q3 q4 qf ql r3 t0 h7 h8 h9 i0 g8 d6 d7 e8 d5 Z6 K5 V5;obtain⟨p0,p1,p2,p3,p4,pf,k9⟩:=zao K8.out;obtain⟨fb,fo,ea,f0,f1,f2,f3,f4⟩:=(hW.out.fs.below J.out) I (by rw[i6.out];exact i1);obtain⟨l2,l3,d8,h0,h1,h2,h3,h4⟩:=(hW.out.fs.below J.out) T (by rw[i6.out];exact e2);obtain⟨vb,vo,A,ev,v0,v1,v2,v3,hv⟩:=(hW.out.rs.below J.out) I (by rw[k3.out];exact i1);dsimp only at ea d8 ev;rw[ea] at d8;cases d8;subst ea ev;rw[hG.out] at f4;rw[j8.out] at f1;rw[j9.out] at h1;rw[h6.out] at v1;obtain⟨A0,A1,A2,A3,C0,C1,C2,C3⟩:=A;dsimp only at v0 v1 v2 v3;have HV:Hid (zct w8 ⟨A0,A1,A2,A3,C0,C1,C2,C3⟩ (rl W.rs I)):=hv;clear f0 f2 f3 h0 h2 h3 h4 hv;rcases e1 with ⟨rfl,rfl⟩ |⟨rfl,hO,rfl⟩ |⟨rfl,hO,hb,rfl⟩|d4
 ·go_wp2
  go_ret;exact⟨rfl,J.out⟩
 ·go_upto_region 13 with fail
  have b1:decide (O1=O2)=false:=yF hO;have b2:(O1 != O2)=true:=by simpa using hO
  have b3:(O1 == O2)=false:=by simpa using hO
  go_big_quiet (fail)
  go_wp2
  go_ret;exact⟨rfl,zbB J.out _⟩
 ·subst hO
  go_upto_region 13 with fail
  go_big_quiet (fail)
  obtain⟨w9,b4⟩:∃ w9,w8.drewN nq=w9:=⟨_,rfl⟩;rw[b4];have F:Hid (Below w8.heap.size w8 w9):=by rw[<- b4];exact zbB (yr _ _) _
  clear b4;replace p1:=zab p1 F.out;replace v0:=zab v0 F.out;replace v1:=zab v1 F.out;replace v2:=zab v2 F.out;replace v3:=zab v3 F.out;clear p0 p2 p3 p4 pf f1 f4 h1;have e0:b<0\/0<=b/\16<=b:=by unfold isH at hb;omega
  rcases e0 with e0 |⟨k0,e0⟩
  ·go_wp2
   go_ret;exact⟨rfl,(J.out.trans (F.out.mono J.out.size)).alloc (by have:=J.out.size;have:=F.out.size;omega) _⟩
  ·have k1:¬ b<0:=by omega
   go_wp2
   go_ret;exact⟨rfl,(J.out.trans (F.out.mono J.out.size)).alloc (by have:=J.out.size;have:=F.out.size;omega) _⟩
 ·obtain⟨rfl,rfl,hb,e4⟩:GG=false/\O1=O2/\isH b/\(FE=0/\TT=MK\/FE≠0/\TT = -FE):=by
   rcases d4 with ⟨x1,x2,x3,x4,x5⟩ |⟨x1,x2,x3,x4,x5⟩
   ·exact⟨x1,x2,x3,Or.inl ⟨x4,x5⟩⟩
   ·exact⟨x1,x2,x3,Or.inr ⟨x4,x5⟩⟩
  clear d4
  go_upto_region 13 with fail
  go_big_quiet (fail)
  obtain⟨w9,b4⟩:∃ w9,w8.drewN nq=w9:=⟨_,rfl⟩;rw[b4];have F:Hid (Below w8.heap.size w8 w9):=by rw[<- b4];exact zbB (yr _ _) _
  clear b4;replace p1:=zab p1 F.out;replace v0:=zab v0 F.out;replace v1:=zab v1 F.out;replace v2:=zab v2 F.out;replace v3:=zab v3 F.out;clear p0 p2 p3 p4 pf f1 f4 h1;have i2:=hb;unfold isH at i2;obtain⟨bn,rfl⟩:∃ bn:Nat,b=bn:=⟨b.toNat,by omega⟩;have k0:¬ ((bn:Int)<0):=by omega
  have k1:¬ ((bn:Int) ≥ 16):=by omega
  have l7:(bn:Int)<16:=by omega
  have b0:bn<16:=by omega
  obtain⟨a6,b7,eh,y0,y1⟩:=(HV.out.2.1.below F.out) bn (by rw[h6.out];omega);dsimp only at eh;subst eh;have i9:(hd (rl W.rs I) (bn:Int)).1=((rl W.rs I).hs.getD bn (0,0)).1:=by unfold hd;rw[yj]
  have j0:(hd (rl W.rs I) (bn:Int)).2=((rl W.rs I).hs.getD bn (0,0)).2:=by unfold hd;rw[yj]
  have b9:Hid (∀ V,Below w9.heap.size w9 V->Calls Tryz.prog 14 #[.agg #[.slice A0 (rl W.rs I).s.length C0],.agg #[.int .i64 ((rl W.rs I).hs.getD bn (0,0)).1,.int .i64 ((rl W.rs I).hs.getD bn (0,0)).2]] V fun e w' => ∃ (x:Nd) (ka:Option Addr) (kl kc:Nat),e=.returned (.tuple #[.agg #[.bool x.u,.int .i64 x.n,.int .i64 x.t,.int .i64 x.m,.int .i64 x.p,.slice ka kl kc,.int .i64 x.h,.bool x.c],.int .i64 FE])/\Below V.heap.size V w' /\(FE=0->x.m=MK)):=fun V hV=>DF.out A0 C0 _ _ V hb i9.symm j0.symm ((HV.out.1.below F.out).below hV);generalize ((rl W.rs I).hs.getD bn (0,0)).1=X1 at y0 b9;generalize ((rl W.rs I).hs.getD bn (0,0)).2=X2 at y1 b9;clear i9 j0 hb i2;have l1:w.heap.size<=w9.heap.size:=by have:=J.out.size;have:=F.out.size;omega
  have e9:Hid (Below w.heap.size w w9):=J.out.trans (F.out.mono J.out.size)
  go_upto_region 18 with fail
  obtain⟨E,a7⟩:∃ E,w9.alloc (.cells #[.slice A0 (rl W.rs I).s.length C0,.slice (some ⟨a6,b7,none⟩) 16 C1,.slice A2 (rl W.rs I).i.length C2,.slice A3 (rl W.rs I).t.length C3] 50)=E:=⟨_,rfl⟩;rw[a7];have a9:Hid (Below w9.heap.size w9 E):=by rw[<- a7];exact zaa _ _
  have s0:E.cell? ⟨w9.heap.size,0,none⟩=some (.slice A0 (rl W.rs I).s.length C0):=by rw[<- a7];exact zad _ _ _ 0 rfl
  have s1:E.cell? ⟨w9.heap.size,1,none⟩=some (.slice (some ⟨a6,b7,none⟩) 16 C1):=by rw[<- a7];exact zad _ _ _ 1 rfl
  have l0:w9.heap.size<E.heap.size:=ye _ _ s0;clear a7;replace y0:=zab y0 a9.out;replace y1:=zab y1 a9.out;have l8:a6<E.heap.size:=ye _ _ y0;have n1:¬ E.heap.size=w9.heap.size:=by omega
  have n2:¬ w9.heap.size=E.heap.size:=by omega
  have n3:¬ E.heap.size=a6:=by omega
  have n4:¬ a6=E.heap.size:=by omega
  have g5:Hid (Below w.heap.size w E):=e9.out.trans (a9.out.mono e9.out.size);clear v0 v1 v2 v3 p1 k9
  go_cut [11,14] (fun s11 s14 wx=>∃ (bq:Nat) (MM:Int),s11=.int .i64 FE/\s14=.pointer (some ⟨bq,0,none⟩)/\wx.cell? ⟨bq,3,none⟩=some (.int .i64 MM)/\Hid ((FE=0->MM=MK)/\Below E.heap.size E wx))
  case first =>
   go_region_held3 (fun c9=>c9.cell? ⟨w9.heap.size,0,none⟩=some (.slice A0 (rl W.rs I).s.length C0)/\c9.cell? ⟨w9.heap.size,1,none⟩=some (.slice (some ⟨a6,b7,none⟩) 16 C1)/\c9.cell? ⟨a6,b7+bn*2,none⟩=some (.int .i64 X1)/\c9.cell? ⟨a6,b7+bn*2+1,none⟩=some (.int .i64 X2)) (go_keep) (first|(go_at_call 14;refine yi (b9.out E.drew (a9.out.trans ((yr _ _).drew.mono a9.out.size))) ?_;rintro e w3 ⟨x,ka,kl,kc,rfl,b0,b6⟩;have B3:Hid (Below E.heap.size E w3):=(yr E.heap.size E).drew.trans (b0.mono (by simp));have M3:Hid (FE=0->x.m=MK):=b6;have k4:=zab s0 B3.out;have k5:=zab s1 B3.out;have k6:=zab y0 B3.out;have k7:=zab y1 B3.out;clear b0 b6)|(go_at_call 14;refine yi (b9.out (E.alloc (.cells #[.bool false,.int .i64 0,.int .i64 0,.int .i64 0,.int .i64 0,.slice none 0 0,.int .i64 0,.bool false] 57)).drew (a9.out.trans ((zaa E _).drew.mono a9.out.size))) ?_;rintro e w3 ⟨x,ka,kl,kc,rfl,b0,b6⟩;have B3:Hid (Below E.heap.size E w3):=(zaa E _).drew.trans (b0.mono (by simp));have M3:Hid (FE=0->x.m=MK):=b6;have k4:=zab s0 B3.out;have k5:=zab s1 B3.out;have k6:=zab y0 B3.out;have k7:=zab y1 B3.out;have XA:Hid (w3.heap[E.heap.size]?=some (.cells #[.bool false,.int .i64 0,.int .i64 0,.int .i64 0,.int .i64 0,.slice none 0 0,.int .i64 0,.bool false] 57 (0,0))):=(b0.block _ (by simp)).trans (yL E _);obtain⟨x0,x1,x2,x3,x4,x5,x6,x7,xf,xl⟩:=zof XA.out;clear b0 b6))
   all_goals
    go_wp2_with fail
    go_meet
    case rel =>
     have zz:=B3.out.size;refine⟨_,x.m,rfl,rfl,by go_simp,M3.out,?_⟩
     first
      |(have m8:=XA.out
        exact((((((((B3.out.setCell (yk _) _).setCell (yk _) _).setCell (yk _) _).setCell (yk _) _).setCell (yk _) _).setCell (yk _) _).setCell (yk _) _).setCell (yk _) _))
      | exact B3.out.alloc B3.out.size _
  case rest =>
   obtain⟨bq,MM,rfl,rfl,hm,HX⟩:=hcut;have BX:Hid (Below w.heap.size w wc):=g5.out.trans (HX.out.2.mono g5.out.size);rcases e4 with ⟨h1,h2⟩ |⟨h1,h2⟩
   ·subst h1;have e3:=HX.out.1 rfl;rw[e3,<- h2] at hm;clear h2 e3 HX
    go_wp2
    go_ret;exact⟨rfl,BX.out⟩
   ·have m3:(FE != 0)=true:=by simpa using h1
    have m5:(FE == 0)=false:=by simpa using h1
    have m6:wrap64 (-FE) = -FE:=by unfold wrap64;omega
    have m7:¬ FE=0:=h1;subst h2;clear HX
    go_wp2
    go_ret;exact⟨rfl,BX.out⟩
theorem find_range(S:List Nd)(p u:Int)(h:zbo S=0):0<=zaz S p u/\zaz S p u<=100:=by
 unfold zaz;rw[yd h];unfold zcV;split
 ·unfold zre
  repeat' split
  all_goals omega
 ·omega
theorem zpm(W:Wl)(k a:Nat)(b:Int):((fr W.fs a).g=true/\zfL W k a b = -5)\/((fr W.fs a).g=false/\(fr W.fs a).o≠(fr W.fs k).o/\zfL W k a b = -7)\/((fr W.fs a).g=false/\(fr W.fs a).o=(fr W.fs k).o/\¬ isH b/\zfL W k a b = -4)\/((fr W.fs a).g=false/\(fr W.fs a).o=(fr W.fs k).o/\isH b/\zaz (rlm W a).s (hd (rlm W a) b).1 (hd (rlm W a) b).2=0/\zfL W k a b=(nd (rlm W a).s (hd (rlm W a) b).1.toNat).m)\/((fr W.fs a).g=false/\(fr W.fs a).o=(fr W.fs k).o/\isH b/\zaz (rlm W a).s (hd (rlm W a) b).1 (hd (rlm W a) b).2≠0/\zfL W k a b = -zaz (rlm W a).s (hd (rlm W a) b).1 (hd (rlm W a) b).2):=by
 unfold zfL;by_cases g:(fr W.fs a).g=true
 ·exact Or.inl ⟨g,yd g⟩
 ·have D:(fr W.fs a).g=false:=by simpa using g
  rw[ya g];by_cases o:(fr W.fs a).o=(fr W.fs k).o
  ·rw[ya (yJ o)];by_cases h:isH b
   ·rw[ya (yJ h)];by_cases f:zaz (rlm W a).s (hd (rlm W a) b).1 (hd (rlm W a) b).2=0
    ·rw[yd f];exact Or.inr (Or.inr (Or.inr (Or.inl ⟨D,o,h,f,rfl⟩)))
    ·rw[ya f];exact Or.inr (Or.inr (Or.inr (Or.inr ⟨D,o,h,f,rfl⟩)))
   ·rw[yd h];exact Or.inr (Or.inr (Or.inl ⟨D,o,h,rfl⟩))
  ·rw[yd o];exact Or.inr (Or.inl ⟨D,o,rfl⟩)
theorem zta{w V:World}{a:Option Addr}{n c:Nat}{K:Nat->Value}(a5:0<n)(hn:n<=8)(hs:SlA a n c)(h:∀ j u,((List.range n).map K)[j]?=some u->∃ b o,a=some ⟨b,o,none⟩/\w.cell? ⟨b,o+j,none⟩=some u)(h1:∀ i,i<n->∃ pa pl pc,K i=.slice pa pl pc)(Z:Below w.heap.size w V) :
  Calls Tryz.prog 12 #[.slice a n c] V fun e w' => ∃ I D,e=.returned (.slice (some ⟨I,0,none⟩) n D)/\n<=D/\D<=9223372036854775807/\Below V.heap.size V w' /\ V.heap.size<=I/\w'.ownsRow V.heap.size 34 1 (.slice (some ⟨I,0,none⟩) n D) n ((List.range n).map K):=by
 have ha:a≠none:=fun e=>by
  have:=hs.1 e;have:=hs.2.1;omega
 refine(zqJ a n c ((List.range n).map K) V (by omega) (by simp) (fun e=>absurd e ha) (fun j u hj=>?_) (fun u hu=>?_)).mono ?_
 ·obtain⟨b,o,e,hc⟩:=h j u hj;exact⟨b,o,e,zab hc Z⟩
 ·obtain⟨i,hi,rfl⟩:=List.mem_map.1 hu;obtain⟨pa,pl,pc,e⟩:=h1 i (List.mem_range.1 hi);rw[e];rfl
 ·rintro e w' ⟨v2,rfl,J,E⟩;rcases E.2 with ⟨_,h0⟩ |⟨U,F,T,e,hg,_,M,O,_⟩
  ·omega
  ·subst e;exact⟨U,F,rfl,M,by unfold maxLen at O;omega,J,hg,E⟩
theorem zkv(hN:zkD)(hK:zdY)(hR:zfn)(hT:zfN)(A:WA)(W:Wl)(k a b:Int)(w:World)(hB:znQ W)(U:WlC A W)(hW:zdF w A W) :
  Calls Tryz.prog 5 #[wlV A W,.int .i64 k,.int .i64 a,.int .i64 b] w fun e w' => e=.returned (.bool true)/\Below w.heap.size w w' := by
 obtain⟨a0,a1,a2,a3,a4,c0,c1,c2,c3,c4⟩:=A;have DT:Hid (∀ V:World,Calls Tryz.prog 9 #[] V fun e w' => e=.returned (.bool true)/\Below V.heap.size V w'):=fun V=>zjW hN hR V;by_cases hE:zbg W=0
 ·have H:=zbU.1 hE;by_cases h0:W.fs.length=0
  ·exact zfd _ _ _ _ _ (zbg W) k a b a0 a1 a2 a3 a4 c0 c1 c2 c3 c4 w (Or.inr ⟨hE,h0⟩) DT (fun V J=>zgU hK hB rfl U (hW.below J))
  ·show Calls Tryz.prog _ #[.agg #[.slice a0 W.fs.length c0,.slice a1 W.rs.length c1,.slice a2 W.ps.length c2,.slice a3 W.qs.length c3,.slice a4 W.pt.length c4],_,_,_] w _;rw[H.lr,H.lp,H.lq];have a5:=H.fs.few;obtain⟨E,I,O⟩:=zsJ k W.fs.length (by omega) (by omega);obtain⟨D,M,T⟩:=zsJ a W.fs.length (by omega) (by omega);have DK:Hid (∀ V,Below w.heap.size w V->Calls _ _ _ _ _):=fun V J=>checkN hK H rfl rfl U (hW.below J);obtain⟨K,Z,a7⟩:=hW.ps.row U.s2;have a8:=U.s2;rw[H.lp] at a7 a8;have DC:=fun V J=>zta (V:=V) (by omega) a5 a8 a7 (fun i hi=>by obtain⟨pa,pc,e,_⟩:=Z i (by rw[H.lp];exact hi);exact⟨_,_,_,e⟩) J;have H2:=H.setP (k:=E) (p:=[⟨12,D,b,0,0⟩]) (by simp) I;by_cases F:zcp (setP W E [⟨12,D,b,0,0⟩]) E true=0
   ·have ht:=zpo H I M F;have hz:=zhr H2 ((E:Int),true);unfold zdG at hz;dsimp only at hz;rw[yd F] at hz;obtain⟨a9,b0,_,_⟩:=zav (H.rs D M);refine zpn (zbz (setP W E [⟨12,D,b,0,0⟩]) E true) _ (rlm W E).t.length (zfL W E D b) W W.fs.length W.pt.length a0 a1 a2 a3 a4 c0 c1 c2 c3 c4 w DT DK k a b E D O T K DC (by omega) I M a5 hW U ⟨Z,H.lp⟩ (fun gw a6 V hc hw=>(zAL hT (fun _=>False) F rfl rfl rfl rfl (fun _ h=>h.elim) hc (zvp hw)).mono fun e w' ⟨f0,f1,f2,f3,f4,g0,g1,g2,g3,g4,x1,x2,x3,x4⟩=>⟨f0,f1,f2,f3,f4,g0,g1,g2,g3,g4,x1,x2,x4.at⟩) ⟨hz.1.lr.trans hz.2,?_,?_⟩ ?_ rfl H.lr b0 _ _ _ rfl rfl rfl (zaz (rlm W D).s (hd (rlm W D) b).1 (hd (rlm W D) b).2) (nd (rlm W D).s (hd (rlm W D) b).1.toNat).m (find_range _ _ _ ((zfg _).2 a9)) ?_ (zpm W E D b)
    ·show (rlm (zbz _ _ _) E).t.length=_;rw[ht];simp
    ·show (rlm (zbz _ _ _) E).t.getD _ 0=_;rw[ht,zae _ _ (by simp)];simp
    ·have:=(zav (H.rs E I)).2.2.2;omega
    ·intro sa sc x1 x2 V _ e1 e2 J;subst e1 e2;exact(zeK (rl W.rs D).s _ _ sa sc V a9 J).mono fun e w' ⟨x,ka,kl,kc,he,hb,h0,_⟩=>⟨x,ka,kl,kc,he,hb,fun h=>by rw[h0 h];rfl⟩
   ·exact zrX _ W W.fs.length W.pt.length a0 a1 a2 a3 a4 c0 c1 c2 c3 c4 w DT DK k a b E D O T K DC (by omega) I M a5 hW U ⟨Z,H.lp⟩ (fun gw a6 V hc hw=>zzn hT (fun _=>False) H2 rfl F rfl rfl (fun _ h=>h.elim) hc (zvp hw)) F
 ·exact zfd _ _ _ _ _ (zbg W) k a b a0 a1 a2 a3 a4 c0 c1 c2 c3 c4 w (Or.inl hE) DT (fun V J=>zgU hK hB rfl U (hW.below J))
end Go.Proofs.YtcbcpomacdngmaaGreat
