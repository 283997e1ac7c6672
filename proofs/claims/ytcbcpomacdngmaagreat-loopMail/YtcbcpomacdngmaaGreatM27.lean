/-
  x
-/
import Derived.Test.YtcbcpomacdngmaaGreatM26
import Derived.WalkSpells
namespace Go.Proofs.YtcbcpomacdngmaaGreat
set_option maxRecDepth 100000
set_option maxHeartbeats 4000000
set_option linter.unusedVariables false
open Go.RowKit Go.ChangeShapes Go.WideShapes
theorem zcK{W:Wl}(H:zan W):zrG W:=by
 have h1:=H.fs.few;refine⟨by omega,⟨by rw[H.lr];omega,fun i hi=>zdU (H.rs i (by rw[<- H.lr];exact hi))⟩,⟨by rw[H.lp];omega,fun i hi=>?_⟩,⟨by rw[H.lq];omega,fun i hi=>?_⟩,?_⟩
 ·have:=H.ps i (by rw[<- H.lp];exact hi);exact yG this (by decide)
 ·obtain⟨E,F⟩:=zbs.1 (H.qs i (by rw[<- H.lq];exact hi));refine⟨yG E (by decide),fun j D=>?_⟩;have:=(F _ (List.getElem_mem D)).2;have I:=zcA this;rw[ztB D];exact⟨by omega,I.2⟩
 ·exact⟨by have:=H.pt.few;omega,(zqw H.pt).big⟩
theorem zuC(hT:zgF)(X:Nat->Prop){W Z:Wl}{k:Int}{s:Bool}{E:Int}(hB:zrG W)(h1:zbK W k s=E)(T:zaX W k s=Z){a0 a1 a2 a3 a4:Option Addr}{c0 c1 c2 c3 c4:Nat}{V:World}(hX:∀ b,X b->b<V.heap.size)(hC:WlC ⟨a0,a1,a2,a3,a4,c0,c1,c2,c3,c4⟩ W)(hW:zgc X V ⟨a0,a1,a2,a3,a4,c0,c1,c2,c3,c4⟩ W) :
  yL 13 #[.agg #[.slice a0 W.fs.length c0,.slice a1 W.rs.length c1,.slice a2 W.ps.length c2,.slice a3 W.qs.length c3,.slice a4 W.pt.length c4],.agg #[.int .i64 k,.bool s]] V fun e w' => ∃ (D F I J M:Option Addr) (d0 d1 d2 d3 O:Nat),e=.returned (.tuple #[.agg #[.slice D Z.fs.length d0,.slice F Z.rs.length d1,.slice I Z.ps.length d2,.slice J Z.qs.length d3,.slice M Z.pt.length O],.int .i64 E])/\Below V.heap.size V w' /\ WlC ⟨D,F,I,J,M,d0,d1,d2,d3,O⟩ Z/\zgc X w' ⟨D,F,I,J,M,d0,d1,d2,d3,O⟩ Z:=by
 subst h1 T;refine(hT X ⟨a0,a1,a2,a3,a4,c0,c1,c2,c3,c4⟩ W k s V hX hB hC hW).mono ?_;rintro e w' ⟨⟨D,F,I,J,M,d0,d1,d2,d3,O⟩,h1,T,U,h4⟩;exact⟨D,F,I,J,M,d0,d1,d2,d3,O,h1,T,U,h4⟩
theorem zlp(hK:zgG){W:Wl}{E:Int}(D:zrG W)(h1:zby W=E){a0 a1 a2 a3 a4:Option Addr}{c0 c1 c2 c3 c4:Nat}{V:World}(F:WlC ⟨a0,a1,a2,a3,a4,c0,c1,c2,c3,c4⟩ W)(I:zgb V ⟨a0,a1,a2,a3,a4,c0,c1,c2,c3,c4⟩ W) :
  yL 10 #[.agg #[.slice a0 W.fs.length c0,.slice a1 W.rs.length c1,.slice a2 W.ps.length c2,.slice a3 W.qs.length c3,.slice a4 W.pt.length c4]] V fun e w' => e=.returned (.int .i64 E)/\Below V.heap.size V w' := by
 subst h1;exact hK ⟨a0,a1,a2,a3,a4,c0,c1,c2,c3,c4⟩ W V D F I
theorem zAH(hT:zgF)(X:Nat->Prop){W Z:Wl}{k:Int}{s:Bool}(h1:zbK W k s=0)(h2:zaX W k s=Z){n n4 m4:Nat}(hn:W.fs.length=n)(U:W.pt.length=n4)(T:Z.pt.length=m4){a0 a1 a2 a3 a4:Option Addr}{c0 c1 c2 c3 c4:Nat}{V:World}(hX:∀ b,X b->b<V.heap.size)(hC:WlC ⟨a0,a1,a2,a3,a4,c0,c1,c2,c3,c4⟩ W)(hW:zgc X V ⟨a0,a1,a2,a3,a4,c0,c1,c2,c3,c4⟩ W) :
  yL 13 #[.agg #[.slice a0 n c0,.slice a1 n c1,.slice a2 n c2,.slice a3 n c3,.slice a4 n4 c4],.agg #[.int .i64 k,.bool s]] V fun e w' => ∃ (E F I J M:Option Addr) (d0 d1 d2 d3 O:Nat),e=.returned (.tuple #[.agg #[.slice E n d0,.slice F n d1,.slice I n d2,.slice J n d3,.slice M m4 O],.int .i64 0])/\Below V.heap.size V w' /\ WlC ⟨E,F,I,J,M,d0,d1,d2,d3,O⟩ Z/\zgc X w' ⟨E,F,I,J,M,d0,d1,d2,d3,O⟩ Z:=by
 obtain⟨H,q,rfl,hq,_⟩:=zdn h1
 have D:zan Z/\Z.fs.length=W.fs.length:=by
  have:=zjA H ((q:Int),s);unfold zjz at this;dsimp only at this;rw[yb h1,h2] at this;exact this
 have h:=zuC hT X (zcK H) h1 h2 hX hC hW;rw[D.1.lr,D.1.lp,D.1.lq,D.2,H.lr,H.lp,H.lq,hn,U,T] at h;exact h
theorem zyI(hT:zgF)(X:Nat->Prop){W:Wl}{k:Int}{s:Bool}{E:Int}(H:zan W)(h1:zbK W k s=E)(hE:E≠0){n U:Nat}(hn:W.fs.length=n)(T:W.pt.length=U){a0 a1 a2 a3 a4:Option Addr}{c0 c1 c2 c3 c4:Nat}{V:World}(hX:∀ b,X b->b<V.heap.size)(Z:WlC ⟨a0,a1,a2,a3,a4,c0,c1,c2,c3,c4⟩ W)(hW:zgc X V ⟨a0,a1,a2,a3,a4,c0,c1,c2,c3,c4⟩ W) :
  yL 13 #[.agg #[.slice a0 n c0,.slice a1 n c1,.slice a2 n c2,.slice a3 n c3,.slice a4 U c4],.agg #[.int .i64 k,.bool s]] V fun e w' => ∃ (D F I J M:Option Addr) (d0 d1 d2 d3 O:Nat),e=.returned (.tuple #[.agg #[.slice D 0 d0,.slice F 0 d1,.slice I 0 d2,.slice J 0 d3,.slice M 0 O],.int .i64 E])/\Below V.heap.size V w' := by
 have hz:zaX W k s=zjQ:=by unfold zaX;rw[h1,ya hE]
 have h:=zuC hT X (zcK H) h1 hz hX Z hW;rw[H.lr,H.lp,H.lq,hn,T] at h;exact h.mono fun e w' ⟨D,F,I,J,M,d0,d1,d2,d3,O,x1,x2,_⟩=>⟨D,F,I,J,M,d0,d1,d2,d3,O,x1,x2⟩
theorem checkN(hK:zgG){W:Wl}(H:zan W){n E:Nat}(hn:W.fs.length=n)(D:W.pt.length=E){a0 a1 a2 a3 a4:Option Addr}{c0 c1 c2 c3 c4:Nat}{V:World}(F:WlC ⟨a0,a1,a2,a3,a4,c0,c1,c2,c3,c4⟩ W)(I:zgb V ⟨a0,a1,a2,a3,a4,c0,c1,c2,c3,c4⟩ W) :
  yL 10 #[.agg #[.slice a0 n c0,.slice a1 n c1,.slice a2 n c2,.slice a3 n c3,.slice a4 E c4]] V fun e w' => e=.returned (.int .i64 0)/\Below V.heap.size V w' := by
 have h:=zlp hK (zcK H) (zcM.2 H) F I;rw[H.lr,H.lp,H.lq,hn,D] at h;exact h
theorem zvR:(Tryz.prog.info? 34).map (fun i=>(i.zero,i.size,i.bytes))=some (some (.slice none 0 0),1,24):=by kernel_rfl
theorem zqi(J:Option Addr)(n cap:Nat)(E:List Value)(w:World)(hn:n<=1000)(hl:E.length=n*1)(h0:J=none->n=0/\cap=0)(hc:∀ j u,E[j]?=some u->∃ b o,J=some ⟨b,o,none⟩/\w.cell? ⟨b,o+j,none⟩=some u)(h1:∀ u ∈ E,u.oneCell' = true) :
  yL 12 #[.slice J n cap] w fun e w' => ∃ v2,e=.returned v2/\Below w.heap.size w w' /\ w'.ownsRow w.heap.size 34 1 v2 n E:=by
 obtain⟨i0,Z,a5,a6,a7⟩:=info_parts zvR;have a8:=fun(W:World) n c n' c' => Lib.run_eql_slice_nil (P:=Tryz.prog) W 24 34 J n c n' c' Tryz.underlying24
 cases J with
 | none =>
  obtain⟨rfl,rfl⟩:=h0 rfl;have U:E=[]:=List.eq_nil_of_length_eq_zero (by simpa using hl);subst U;clear hc h1
  go_enter Tryz.func12,Tryz.ntmps12
  go_wp2_with fail
  go_ret;exact⟨_,rfl,yk _ _,World.ownsRow_nil _ _ _ _⟩
 | some ad =>
  obtain⟨g,o,sp⟩:=ad
  have O:Hid (∀ o1,∀ j u,E[j]?=some u->(w.alloc o1).cell? ((⟨g,o,sp⟩:Addr).add j)=some u):=fun o1 j u hj=>by
   obtain⟨b,o', e,I⟩:=hc j u hj;cases e;rw[Addr.add_lit];exact zab I (zaa w o1)
  have T:Hid (∀ u ∈ E,u.oneCell' = true):=h1;have M:Hid (E.length=n*1):=hl;clear hc h1 hl h0
  go_enter Tryz.func12,Tryz.ntmps12
  go_wp2_with (at_builtin;refine wpList_append_own _ rfl _ _ 24 rfl w.heap.size 34 i0 (.slice none 0 0) 1 24 Tryz.underlying24 Z a5 a6 a7 rfl (by decide) (.slice (some ⟨w.heap.size,0,none⟩) 0 0) 0 [] rfl ?c0 ⟨g,o,sp⟩ n cap E rfl M.out (O.out _) T.out ?c3 ?c4 ?c5 ?_)
  case c0=>exact⟨by simp,Or.inr ⟨w.heap.size,0,#[],rfl,yj _,yK w _,by omega,by unfold maxLen;omega,by simp,by simp⟩⟩
  case c3=>unfold maxLen;omega
  case c4=>omega
  case c5=>simp
  intro v2 w2 F D _;have OW:Hid (w2.ownsRow w.heap.size 34 1 v2 n E):=(show w2.ownsRow _ _ _ _ _ _ from by simpa using F);have BB:Hid (Below w.heap.size w w2):=(zaa w _).trans ⟨D.os,D.tape,D.output,D.size,fun k hk=>D.block k (by simp;omega) (fun e=>by have:k=w.heap.size:=Option.some.inj e;omega)⟩;clear F D
  go_wp2
  go_ret;exact⟨_,rfl,BB.out,OW.out⟩
def setP(W:Wl)(k:Nat)(p:List Ac):Wl:={ W with ps:=W.ps.set k p }
theorem zan.setP{W:Wl}(H:zan W){k:Nat}{p:List Ac}(E:p.length<=40)(D:k<W.fs.length):zan (setP W k p) :=
 ⟨H.fs,H.lr,by show (W.ps.set k p).length=_;rw[List.length_set];exact H.lp,H.lq,H.rs,fun i hi=>by
  show ((W.ps.set k p).getD i []).length<=40;rw[zba _ _ _ _ _ (by rw[H.lp];exact D)];split
  ·exact E
  ·exact H.ps i hi,H.qs,H.pt⟩
theorem zjW.row{w:World}{a:Option Addr}{P:List (List Ac)}{c:Nat}(h:zjW w a P)(hs:SlA a P.length c):∃ K:Nat->Value,(∀ i,i<P.length->∃ pa pc,K i=.slice pa (pg P i).length pc/\zbE w pa (pg P i))/\∀ j u,((List.range P.length).map K)[j]?=some u->∃ b o,a=some ⟨b,o,none⟩/\w.cell? ⟨b,o+j,none⟩=some u:=by
 have E:∀ i,∃ v:Value,i<P.length->∃ b o pa pc,a=some ⟨b,o,none⟩/\w.cell? ⟨b,o+i,none⟩=some v/\v=.slice pa (pg P i).length pc/\zbE w pa (pg P i):=fun i=>by
  by_cases hi:i<P.length
  ·obtain⟨b,o,pa,pc,e,hc,ha⟩:=h i hi;exact⟨_,fun _=>⟨b,o,pa,pc,e,hc,rfl,ha⟩⟩
  ·exact⟨.slice none 0 0,fun h=>absurd h hi⟩
 refine⟨fun i=>Classical.choose (E i),fun i hi=>?_,fun j u D=>?_⟩
 ·obtain⟨b,o,pa,pc,e,hc,F,ha⟩:=Classical.choose_spec (E i) hi;exact⟨pa,pc,F,ha⟩
 ·rw[List.getElem?_map] at D;by_cases hi:j<P.length
  ·rw[List.getElem?_range hi] at D;cases D;obtain⟨b,o,pa,pc,e,hc,F,ha⟩:=Classical.choose_spec (E j) hi;exact⟨b,o,e,hc⟩
  ·rw[List.getElem?_eq_none (by simpa using hi)] at D;cases D
theorem zlT{w w1:World}{P:List (List Ac)}{K:Nat->Value}{g B n cap k q qc:Nat}{p:List Ac}(hn:P.length=n)(hK:∀ i,i<P.length->∃ pa pc,K i=.slice pa (pg P i).length pc/\zbE w pa (pg P i))(ho:w1.ownsRow B 34 1 (.slice (some ⟨g,0,none⟩) n cap) n ((List.range n).map K))(hk:k<n){M:World}(Z:Below w.heap.size w M)(hq:zbE M (some ⟨q,0,none⟩) p)(hg:∀ D t,w1.heap[g]?=some (.cells D t (0,0))->M.heap[g]?=some (.cells (D.setIfInBounds k (.slice (some ⟨q,0,none⟩) p.length qc)) t (0,0))):zjW M (some ⟨g,0,none⟩) (P.set k p):=by
 subst hn;rcases ho.2 with ⟨e,_⟩ |⟨g', U,D,e,_,J,a5,_,a6,T⟩
 ·cases e
 cases e;have F:=hg _ _ J;intro i hi;rw[List.length_set] at hi
 have I:D[i]?=some (K i):=by
  have h5:(D.toList.take (P.length*1))[i]?=some (K i):=by rw[T,List.getElem?_map,List.getElem?_range hi];rfl
  rw[List.getElem?_take,yb (by omega)] at h5;simpa using h5
 by_cases e:i=k
 ·subst e;refine⟨g,0,some ⟨q,0,none⟩,qc,rfl,?_,?_⟩
  ·have E:pg (P.set i p) i=p:=(by unfold pg;rw[zae _ _ (by rw[List.length_set];exact hi),List.getElem_set_self]);rw[E,yz];have O:i<D.size:=(Array.getElem?_eq_some_iff.1 I).1;simp[World.cell?,F,O]
  ·have E:pg (P.set i p) i=p:=(by unfold pg;rw[zae _ _ (by rw[List.length_set];exact hi),List.getElem_set_self]);rw[E];exact hq
 ·obtain⟨pa,pc,hv,ha⟩:=hK i hi;have E:pg (P.set k p) i=pg P i:=by unfold pg;exact zgT P k i p [] e
  refine⟨g,0,pa,pc,rfl,?_,?_⟩
  ·rw[E,yz,<- hv];simp only[World.cell?,F];rw[Array.getElem?_setIfInBounds_ne (Ne.symm e)];exact I
  ·rw[E];exact ha.below Z
variable {M:Nat->Prop} {T:Nat->Int} {O:Int} {W V:Wl}
variable {M:Nat->Prop} {T:Nat->Int} {O:Int} {W V:Wl}
structure EGr where
 ga:Option Addr
 gl:Nat
 gc:Nat
def zxi(x:EGr):Nat->Value
 | _=>.slice x.ga x.gl x.gc
theorem zzJ(n:Nat)(hn:n<=100000)(w:World):(Instr.makeSlice 119 (.int .i64 (n:Int)) (.int .i64 (n:Int))).run Tryz.prog w=.ok (.slice (some ⟨w.heap.size,0,none⟩) n n) (w.alloc (.cells (madeCells #[.slice none 0 0] (n*1)) 47)):=by
 have I:(Tryz.prog.info? 47).map (fun i=>(i.zero,i.size,i.bytes))=some (some (.agg #[.slice none 0 0]),1,24):=by kernel_rfl
 obtain⟨i,hi,D,E,F⟩:=info_parts I;have h:=run_make (P:=Tryz.prog) w 119 47 i _ Tryz.underlying119 hi D .i64 .i64 n n (by omega) (by omega) (by rw[F];omega) (by omega);rw[E] at h;simp only[yi] at h;exact h
theorem zaA.putGr{w:World}{g n k:Nat}{F:Nat->Value}(h:w.rowIs g 47 (n*1) F)(x:EGr):∃ D,(w.setCell ⟨g,k,none⟩ (.slice x.ga x.gl x.gc)).rowIs g 47 (n*1) D/\(∀ j,j<1->D (k*1+j)=zxi x j)/\∀ i,i<k->∀ j,j<1->D (i*1+j)=F (i*1+j):=by
 refine⟨_,h.set _ _,fun j E=>?_,fun i hi j E=>?_⟩
 ·obtain rfl:j=0:=by omega
  exact yb (by omega)
 ·exact ya (by omega)
theorem zzm(K:Nat)(eg:∀ args w,(callFunc K args).run Tryz.prog w=.ok (.enter K args) w)(a:Option Addr)(c n:Nat)(S:Nat->EGr)(R:Nat->EGr->Nat->Nat->World->Prop)(w:World)(hn:n<=100000)
  (hs:∀ i,i<n->∃ b o,a=some ⟨b,o,none⟩/\w.cell? ⟨b,o+i,none⟩=some (.slice (S i).ga (S i).gl (S i).gc))
  (hK:∀ i,i<n->∀ W,Below w.heap.size w W->yL K #[.agg #[.slice (S i).ga (S i).gl (S i).gc]] W fun e U=>∃ y:EGr,e=.returned (.agg #[.slice y.ga y.gl y.gc])/\Below W.heap.size W U/\St (fun b=>b<W.heap.size\/U.heap.size<=b) (R i y W.heap.size U.heap.size) U) :
  yL 109 #[.slice a n c,.func (.func K) #[] #[]] w fun e w' => e=.returned (.slice (some ⟨w.heap.size,0,none⟩) n n)/\Below w.heap.size w w' /\ zaA zxi 47 1 n R w.heap.size n w' := by
 have HS:Hid _:=hs;have HK:Hid _:=hK;clear hs hK;have b3:=zzJ n hn
 go_enter Tryz.func109,Tryz.ntmps109
 go_wp2
 go_loopg [13] n (fun m s13 wr=>∃ k:Nat,k<=n/\n-k<=m/\s13=.int .i64 k/\Below w.heap.size w wr/\Hid (zaA zxi 47 1 n R w.heap.size k wr))
 case atStart=>exact⟨0,by omega,by omega,rfl,zaa _ _,(by have h:=zaA.zero (cv:=zxi) w #[.slice none 0 0] 47 1 n R (S 0);rw[Nat.mul_one] at h;exact h)⟩
 case round =>
  obtain⟨k,hk,hg,rfl,M,O⟩:=hrel;by_cases J:k<n
  ·have b0:(k:Int)<(n:Int):=(by omega);obtain⟨b,o,rfl,c0⟩:=HS.out k J;replace c0:=zab c0 M;have b1:b<wr.heap.size:=yd _ _ c0;obtain⟨I,a5,F,Z⟩:=O.out.facts;have D:Hid (∀ W,Below wr.heap.size wr W->Calls _ _ _ _ _):=fun W hW=>HK.out k J W (M.trans (hW.mono M.size));generalize S k=x at *;obtain⟨b4,b6,b5⟩:=x;dsimp only at c0 D
   go_wp2_with (go_at_fn K;refine(D.out _ ?nd).mono ?_;(case nd=>exact zaa _ _);rintro e w3 ⟨⟨a6,a8,a7⟩,rfl,E,h3⟩;have HR:Hid _:=h3;clear h3;have T:Hid (Below wr.heap.size wr w3):=(zaa _ _).trans (E.mono (by simp));have s3:Hid (wr.heap.size<=w3.heap.size):=T.out.size;have SZ:Hid _:=E.size;clear E;have q0:=(T.out.cell (by exact I)).trans (Z (k) (by omega));have a9:=fun o=>(T.out.frozen (by exact I)).trans (a5 o);have b2:w.heap.size<w3.heap.size:=yx I s3.out)
   go_roundg (n-(k+1))
   case measure=>omega
   case rel =>
    refine⟨k+1,by omega,by omega,by go_num,((M.trans (T.out.mono M.size)).setCell (by simp) _),zaA.step O.out J T.out (by simp) ?_ HR.out rfl ((zar.refl (fun b=>b=w.heap.size) _).trans (zar.set (X:=fun b=>b=w.heap.size) _ _ rfl)) (fun F Z=>zaA.putGr Z ⟨a6,a8,a7⟩)⟩;have:=SZ.out;simpa using this
  ·have:k=n:=(by omega);subst this
   go_wp2
   go_ret;exact⟨rfl,M,O.out⟩
structure EPt where
 o:Int
 t:Int
 m:Int
 ga:Option Addr
 gl:Nat
 gc:Nat
 h:Bool
def zvl(x:EPt):Nat->Value
 | 0=>.int .i64 x.o
 | 1=>.int .i64 x.t
 | 2=>.int .i64 x.m
 | 3=>.slice x.ga x.gl x.gc
 | _=>.bool x.h
theorem zzN(n:Nat)(hn:n<=100000)(w:World):(Instr.makeSlice 26 (.int .i64 (n:Int)) (.int .i64 (n:Int))).run Tryz.prog w=.ok (.slice (some ⟨w.heap.size,0,none⟩) n n) (w.alloc (.cells (madeCells #[.int .i64 0,.int .i64 0,.int .i64 0,.slice none 0 0,.bool false] (n*5)) 121)):=by
 have I:(Tryz.prog.info? 121).map (fun i=>(i.zero,i.size,i.bytes))=some (some (.agg #[.int .i64 0,.int .i64 0,.int .i64 0,.slice none 0 0,.bool false]),5,56):=by kernel_rfl
 obtain⟨i,hi,D,E,F⟩:=info_parts I;have h:=run_make (P:=Tryz.prog) w 26 121 i _ Tryz.underlying26 hi D .i64 .i64 n n (by omega) (by omega) (by rw[F];omega) (by omega);rw[E] at h;simp only[yi] at h;exact h
theorem zaA.putPt{w:World}{g n k:Nat}{F:Nat->Value}(h:w.rowIs g 121 (n*5) F)(x:EPt):∃ D,(((((w.setCell ⟨g,k*5,none⟩ (.int .i64 x.o)).setCell ⟨g,k*5+1,none⟩ (.int .i64 x.t)).setCell ⟨g,k*5+2,none⟩ (.int .i64 x.m)).setCell ⟨g,k*5+3,none⟩ (.slice x.ga x.gl x.gc)).setCell ⟨g,k*5+4,none⟩ (.bool x.h)).rowIs g 121 (n*5) D/\(∀ j,j<5->D (k*5+j)=zvl x j)/\∀ i,i<k->∀ j,j<5->D (i*5+j)=F (i*5+j):=by
 refine⟨_,((((h.set _ _).set _ _).set _ _).set _ _).set _ _,fun j E=>?_,fun i hi j E=>?_⟩
 ·rcases(by omega:j=0\/j=1\/j=2\/j=3\/j=4) with rfl|rfl|rfl|rfl|rfl
  ·rw[ya (by omega),ya (by omega),ya (by omega),ya (by omega),yb (by omega)];rfl
  ·rw[ya (by omega),ya (by omega),ya (by omega),yb rfl];rfl
  ·rw[ya (by omega),ya (by omega),yb rfl];rfl
  ·rw[ya (by omega),yb rfl];rfl
  ·rw[yb rfl];rfl
 ·rw[ya (by omega),ya (by omega),ya (by omega),ya (by omega),ya (by omega)]
theorem zzq(K:Nat)(eg:∀ args w,(callFunc K args).run Tryz.prog w=.ok (.enter K args) w)(a:Option Addr)(c n:Nat)(S:Nat->EPt)(R:Nat->EPt->Nat->Nat->World->Prop)(w:World)(hn:n<=100000)
  (hs:∀ i,i<n->∃ b o,a=some ⟨b,o,none⟩/\w.cell? ⟨b,o+i*5,none⟩=some (.int .i64 (S i).o)/\w.cell? ⟨b,o+i*5+1,none⟩=some (.int .i64 (S i).t)/\w.cell? ⟨b,o+i*5+2,none⟩=some (.int .i64 (S i).m)/\w.cell? ⟨b,o+i*5+3,none⟩=some (.slice (S i).ga (S i).gl (S i).gc)/\w.cell? ⟨b,o+i*5+4,none⟩=some (.bool (S i).h))
  (hK:∀ i,i<n->∀ W,Below w.heap.size w W->yL K #[.agg #[.int .i64 (S i).o,.int .i64 (S i).t,.int .i64 (S i).m,.slice (S i).ga (S i).gl (S i).gc,.bool (S i).h]] W fun e Z=>∃ y:EPt,e=.returned (.agg #[.int .i64 y.o,.int .i64 y.t,.int .i64 y.m,.slice y.ga y.gl y.gc,.bool y.h])/\Below W.heap.size W Z/\St (fun b=>b<W.heap.size\/Z.heap.size<=b) (R i y W.heap.size Z.heap.size) Z) :
  yL 107 #[.slice a n c,.func (.func K) #[] #[]] w fun e w' => e=.returned (.slice (some ⟨w.heap.size,0,none⟩) n n)/\Below w.heap.size w w' /\ zaA zvl 121 5 n R w.heap.size n w' := by
 have HS:Hid _:=hs;have HK:Hid _:=hK;clear hs hK;have b3:=zzN n hn
 go_enter Tryz.func107,Tryz.ntmps107
 go_wp2
 go_loopg [13] n (fun m s13 wr=>∃ k:Nat,k<=n/\n-k<=m/\s13=.int .i64 k/\Below w.heap.size w wr/\Hid (zaA zvl 121 5 n R w.heap.size k wr))
 case atStart=>exact⟨0,by omega,by omega,rfl,zaa _ _,zaA.zero w _ 121 5 n R (S 0)⟩
 case round =>
  obtain⟨k,hk,hg,rfl,I,O⟩:=hrel;by_cases U:k<n
  ·have b0:(k:Int)<(n:Int):=(by omega);obtain⟨b,o,rfl,c0,c1,c2,c3,c4⟩:=HS.out k U;replace c0:=zab c0 I;replace c1:=zab c1 I;replace c2:=zab c2 I;replace c3:=zab c3 I;replace c4:=zab c4 I;have b1:b<wr.heap.size:=yd _ _ c0;obtain⟨E,a5,F,M⟩:=O.out.facts;have D:Hid (∀ W,Below wr.heap.size wr W->Calls _ _ _ _ _):=fun W hW=>HK.out k U W (I.trans (hW.mono I.size));generalize S k=x at *;obtain⟨xo,xt,xm,b4,b6,b5,xh⟩:=x;dsimp only at c0 c1 c2 c3 c4 D
   go_wp2_with (go_at_fn K;refine(D.out _ ?nd).mono ?_;(case nd=>exact zaa _ _);rintro e w3 ⟨⟨yo,yt,ym,a6,a8,a7,yh⟩,rfl,T,h3⟩;have HR:Hid _:=h3;clear h3;have J:Hid (Below wr.heap.size wr w3):=(zaa _ _).trans (T.mono (by simp));have s3:Hid (wr.heap.size<=w3.heap.size):=J.out.size;have SZ:Hid _:=T.size;clear T;have q0:=(J.out.cell (by exact E)).trans (M (k*5) (by omega));have q1:=(J.out.cell (by exact E)).trans (M (k*5+1) (by omega));have q2:=(J.out.cell (by exact E)).trans (M (k*5+2) (by omega));have q3:=(J.out.cell (by exact E)).trans (M (k*5+3) (by omega));have q4:=(J.out.cell (by exact E)).trans (M (k*5+4) (by omega));have a9:=fun o=>(J.out.frozen (by exact E)).trans (a5 o);have b2:w.heap.size<w3.heap.size:=yx E s3.out)
   go_roundg (n-(k+1))
   case measure=>omega
   case rel =>
    refine⟨k+1,by omega,by omega,by go_num,((((((I.trans (J.out.mono I.size)).setCell (by simp) _).setCell (by simp) _).setCell (by simp) _).setCell (by simp) _).setCell (by simp) _),zaA.step O.out U J.out (by simp) ?_ HR.out rfl ((((((zar.refl (fun b=>b=w.heap.size) _).trans (zar.set (X:=fun b=>b=w.heap.size) _ _ rfl)).trans (zar.set (X:=fun b=>b=w.heap.size) _ _ rfl)).trans (zar.set (X:=fun b=>b=w.heap.size) _ _ rfl)).trans (zar.set (X:=fun b=>b=w.heap.size) _ _ rfl)).trans (zar.set (X:=fun b=>b=w.heap.size) _ _ rfl)) (fun F M=>zaA.putPt M ⟨yo,yt,ym,a6,a8,a7,yh⟩)⟩;have:=SZ.out;simpa using this
  ·have:k=n:=(by omega);subst this
   go_wp2
   go_ret;exact⟨rfl,I,O.out⟩
def RGr(C:List (List Cl))(i:Nat)(y:EGr)(lo hi:Nat)(V:World):Prop:=y.gl=(gr C i).length/\zaF V y.ga (gr C i)
theorem znP(a:Option Addr)(c:Nat)(C:List (List Cl))(w:World)(T:C.length<=1000)(hK:∀ i,i<C.length->(gr C i).length<=1000/\∀ j,j<(gr C i).length->(cl (gr C i) j).ks.length<=1000)(E:zjU w a C) :
  yL 109 #[.slice a C.length c,.func (.func 104) #[] #[]] w fun e w' => e=.returned (.slice (some ⟨w.heap.size,0,none⟩) C.length C.length)/\Below w.heap.size w w' /\ zaA zxi 47 1 C.length (RGr C) w.heap.size C.length w' := by
 obtain⟨f,D⟩:=Classical.skolem.1 (fun i=>show ∃ x:Option Addr × Nat,i<C.length->(∃ b o,a=some ⟨b,o,none⟩/\w.cell? ⟨b,o+i,none⟩=some (.slice x.1 (gr C i).length x.2))/\zaF w x.1 (gr C i) by
  by_cases hi:i<C.length
  ·obtain⟨b,o,ga,gc,e,c0,hc⟩:=E i hi;exact⟨(ga,gc),fun _=>⟨⟨b,o,e,c0⟩,hc⟩⟩
  ·exact⟨(none,0),fun h=>absurd h hi⟩)
 refine zzm 104 (yJ Tryz.func104 (by kernel_rfl) rfl) a c C.length (fun i=>⟨(f i).1,(gr C i).length,(f i).2⟩) (RGr C) w (by omega) (fun i hi=>(D i hi).1) (fun i hi W F=>?_);refine(zht (f i).1 (f i).2 (gr C i) W (hK i hi).1 (hK i hi).2 ((D i hi).2.below F)).mono ?_;rintro e w' ⟨g,rfl,I,hg,M⟩;exact⟨⟨some ⟨g,0,none⟩,(gr C i).length,(gr C i).length⟩,rfl,I,fun O J=>⟨rfl,M O J⟩⟩
def zuR(lo hi:Nat)(w:World)(v:Value)(C:List (List Cl)):Prop:=∃ b J,lo<=b/\b<hi/\v=.slice (some ⟨b,0,none⟩) C.length C.length/\w.rowIs b 47 C.length J/\∀ i,i<C.length->∃ ga gc,J i=.slice ga (gr C i).length gc/\St (fun x=>x<=b\/hi<=x) (fun w=>zaF w ga (gr C i)) w
theorem zuR.off{lo hi:Nat}{w w' : World}{v:Value}{C:List (List Cl)}{Y:Nat->Prop}(h:zuR lo hi w v C)(F:zar Y w w')(E:∀ b,Y b->b<lo\/hi<=b):zuR lo hi w' v C:=by
 obtain⟨b,J,h1,I,M,D,h5⟩:=h;refine⟨b,J,h1,I,M,D.of_block (F.block b D.lt (fun T=>by have:=E b T;omega)),fun i hi=>?_⟩;obtain⟨ga,gc,e,hs⟩:=h5 i hi;exact⟨ga,gc,e,hs.off (F.mono (fun x O=>by have:=E x O;show x<=b\/_<=x;omega))⟩
theorem zuR.grs{lo hi:Nat}{w:World}{v:Value}{C:List (List Cl)}(h:zuR lo hi w v C)(I:C.length<=1000):zrH w v C:=by
 obtain⟨b,J,h1,F,D,E,h5⟩:=h;refine⟨some ⟨b,0,none⟩,C.length,D,⟨(fun e=>by cases e),yj _,by omega⟩,fun i hi=>?_⟩;obtain⟨ga,gc,e,hs⟩:=h5 i hi;exact⟨b,0,ga,gc,rfl,by rw[yz,E.cell hi,e],hs.at⟩
theorem zuR.made{lo hi g:Nat}{C:List (List Cl)}{w:World}(h:zaA zxi 47 1 C.length (RGr C) g C.length w)(E:lo<=g)(O:w.heap.size<=hi):zuR lo hi w (.slice (some ⟨g,0,none⟩) C.length C.length) C:=by
 obtain⟨v,l,u,F,D,T⟩:=h;have hg:=D.lt;rw[Nat.mul_one] at D;refine⟨g,F,E,by omega,rfl,D,fun i hi=>?_⟩;obtain⟨h1,U,Z,h4,_,I⟩:=T i hi;obtain⟨J,_⟩:=I.at;refine⟨(v i).ga,(v i).gc,?_,(I.imp (fun V h=>h.2)).less (fun b M=>by show b<l i\/u i<=b;have:b<=g\/_<=b:=M;omega)⟩;have:=h1 0 (by omega);rw[Nat.mul_one,Nat.add_zero] at this;rw[this,<- J];rfl
structure CpI (B:Nat) (L:List Pt) (K:Nat->Value) (lo hi:Nat->Nat) (k:Nat) (w:World):Prop where
 row:w.ownsRow B 121 5 (.slice (some ⟨B,0,none⟩) L.length L.length) L.length (zcc L K)
 gs:∀ i,i<k->zuR (lo i) (hi i) w (K i) (pt L i).cm
 at' : ∀ i,i<k->B<lo i/\hi i<=w.heap.size
 ap:∀ i j,i<k->j<k->i≠j->hi i<=lo j\/hi j<=lo i
def zxe(L:List Pt):Prop:=∀ i,i<L.length->(pt L i).cm.length<=1000/\∀ j,j<(pt L i).cm.length->(gr (pt L i).cm j).length<=1000/\∀ m,m<(gr (pt L i).cm j).length->(cl (gr (pt L i).cm j) m).ks.length<=1000
def RPt(L:List Pt)(i:Nat)(y:EPt)(lo hi:Nat)(V:World):Prop:=y.o=(pt L i).o/\y.t=(pt L i).t/\y.m=(pt L i).m/\y.h=(pt L i).s/\zuR lo hi V (.slice y.ga y.gl y.gc) (pt L i).cm
theorem zoZ{w:World}{g:Nat}{L:List Pt}(hN:L.length<=1000)(h:zaA zvl 121 5 L.length (RPt L) g L.length w):∃ K lo hi,CpI g L K lo hi L.length w:=by
 obtain⟨v,lo,hi,F,⟨c,T,I,J⟩,E⟩:=h;have hg:g<w.heap.size:=zau T;refine⟨fun i=>.slice (v i).ga (v i).gl (v i).gc,lo,hi,?_,fun i D=>(E i D).2.2.2.2.2.at.2.2.2.2,fun i D=>⟨(E i D).2.1,(E i D).2.2.2.1⟩,fun i j D M O=>?_⟩
 ·have e:c.toList=zcc L (fun i=>.slice (v i).ga (v i).gl (v i).gc):=zhH (by simpa using I) (fun i j D M=>by
   obtain⟨U,Z,e2,e3,_⟩:=(E i D).2.2.2.2.2.at;rw[Array.getElem?_toList,J (i*5+j) (by omega),(E i D).1 j M];unfold zcS;rw[<- U,<- Z,<- e2,<- e3];rcases(by omega:j=0\/j=1\/j=2\/j=3\/j=4) with rfl|rfl|rfl|rfl|rfl <;> rfl)
  refine⟨zbM _ _,Or.inr ⟨g,L.length,c,rfl,yj _,T,yj _,by unfold maxLen;omega,I,?_⟩⟩;rw[e];exact List.take_of_length_le (by rw[zbM];exact yj _)
 ·rcases Nat.lt_or_gt_of_ne O with h|h
  ·exact Or.inl ((E j M).2.2.2.2.1 i h)
  ·exact Or.inr ((E i D).2.2.2.2.1 j h)
theorem zsA(x:Pt)(I:Option Addr)(O:Nat)(w:World)(h1:x.cm.length<=1000)(h2:∀ i,i<x.cm.length->(gr x.cm i).length<=1000/\∀ j,j<(gr x.cm i).length->(cl (gr x.cm i) j).ks.length<=1000)(hG:zjU w I x.cm) :
  yL 108 #[.agg #[.int .i64 x.o,.int .i64 x.t,.int .i64 x.m,.slice I x.cm.length O,.bool x.s]] w fun e w' => ∃ g,e=.returned (.agg #[.int .i64 x.o,.int .i64 x.t,.int .i64 x.m,.slice (some ⟨g,0,none⟩) x.cm.length x.cm.length,.bool x.s])/\Below w.heap.size w w' /\ w.heap.size<=g/\zaA zxi 47 1 x.cm.length (RGr x.cm) g x.cm.length w' := by
 have D:Hid (∀ W,Below w.heap.size w W->Calls _ _ _ _ _):=fun W hW=>znP I O x.cm W h1 h2 (hG.below hW);clear hG h1 h2;obtain⟨xo,xt,Z,xc,xs⟩:=x;dsimp only at D |-;generalize xc.length=l at *
 go_enter Tryz.func108,Tryz.ntmps108
 go_wp2_with fail
 obtain⟨V,F⟩:∃ V,(w.alloc (.cells #[.int .i64 xo,.int .i64 xt,.int .i64 Z,.slice I l O,.bool xs] 121)).alloc (.cells #[.int .i64 0,.int .i64 0,.int .i64 0,.slice none 0 0,.bool false] 121)=V:=⟨_,rfl⟩;have T:V.cell? ⟨w.heap.size,0,none⟩=some (.int .i64 xo):=by rw[<- F];exact zaM _ _ _ 0 _ rfl
 have v1:V.cell? ⟨w.heap.size,1,none⟩=some (.int .i64 xt):=by rw[<- F];exact zaM _ _ _ 1 _ rfl
 have v2:V.cell? ⟨w.heap.size,2,none⟩=some (.int .i64 Z):=by rw[<- F];exact zaM _ _ _ 2 _ rfl
 have v3:V.cell? ⟨w.heap.size,3,none⟩=some (.slice I l O):=by rw[<- F];exact zaM _ _ _ 3 _ rfl
 have v4:V.cell? ⟨w.heap.size,4,none⟩=some (.bool xs):=by rw[<- F];exact zaM _ _ _ 4 _ rfl
 have J:V.cell? ⟨w.heap.size+1,0,none⟩=some (.int .i64 0):=by rw[<- F];exact zaN _ _ _ 0 _ rfl
 have z1:V.cell? ⟨w.heap.size+1,1,none⟩=some (.int .i64 0):=by rw[<- F];exact zaN _ _ _ 1 _ rfl
 have z2:V.cell? ⟨w.heap.size+1,2,none⟩=some (.int .i64 0):=by rw[<- F];exact zaN _ _ _ 2 _ rfl
 have z3:V.cell? ⟨w.heap.size+1,3,none⟩=some (.slice none 0 0):=by rw[<- F];exact zaN _ _ _ 3 _ rfl
 have z4:V.cell? ⟨w.heap.size+1,4,none⟩=some (.bool false):=by rw[<- F];exact zaN _ _ _ 4 _ rfl
 have zf:∀ o,V.frozen? ⟨w.heap.size+1,o,none⟩=false:=fun o=>by rw[<- F];exact ziL _ _ _ _ _
 have vf:∀ o,V.frozen? ⟨w.heap.size,o,none⟩=false:=fun o=>by rw[<- F];exact zrY _ _ _ _ _
 have M:Hid (Below w.heap.size w V):=by rw[<- F];exact zam _ _ _
 have sV:w.heap.size+1<V.heap.size:=yd _ _ J;have U:w.heap.size<V.heap.size:=yd _ _ T;rw[F];clear F;refine ye (D.out _ M.out) ?_;rintro e w3 ⟨rfl,E,h3⟩;have H3:Hid (zaA zxi 47 1 l (RGr xc) V.heap.size l w3):=h3;have B3:Hid (Below w.heap.size w w3):=M.out.trans (E.mono M.out.size);replace T:=zab T E;replace v1:=zab v1 E;replace v2:=zab v2 E;replace v3:=zab v3 E;replace v4:=zab v4 E;replace J:=zab J E;replace z1:=zab z1 E;replace z2:=zab z2 E;replace z3:=zab z3 E;replace z4:=zab z4 E;have fz:=fun o=>(E.frozen (show (⟨w.heap.size+1,o,none⟩:Addr).block<V.heap.size from sV)).trans (zf o);have fv:=fun o=>(E.frozen (show (⟨w.heap.size,o,none⟩:Addr).block<V.heap.size from U)).trans (vf o);have s3:w.heap.size+1<w3.heap.size:=yd _ _ J;have s30:w.heap.size<w3.heap.size:=yd _ _ T;clear E h3 zf vf
 go_wp2
 refine yv (v:=.agg #[.int .i64 xo,.int .i64 xt,.int .i64 Z,.slice (some ⟨V.heap.size,0,none⟩) l l,.bool xs]) (by simp[results,Tryz.results108,go_sem,J,z1,z2,z3,z4]) rfl ⟨V.heap.size,rfl,?_,M.out.size,?_⟩
 ·exact(((((B3.out.setCell (by simp) _).setCell (by simp) _).setCell (by simp) _).setCell (by simp) _).setCell (by simp) _).setCell (by simp) _
 ·exact(((((H3.out.set (by omega) _).set (by omega) _).set (by omega) _).set (by omega) _).set (by omega) _).set (by omega) _
theorem zqn(a:Option Addr)(c:Nat)(L:List Pt)(w:World)(Z:L.length<=12)(E:zxe L)(M:zdr w a L) :
  yL 107 #[.slice a L.length c,.func (.func 108) #[] #[]] w fun e w' => e=.returned (.slice (some ⟨w.heap.size,0,none⟩) L.length L.length)/\Below w.heap.size w w' /\ zaA zvl 121 5 L.length (RPt L) w.heap.size L.length w' := by
 obtain⟨f,F⟩:=Classical.skolem.1 (fun i=>show ∃ x:Option Addr × Nat,i<L.length->(∃ b o,a=some ⟨b,o,none⟩/\w.cell? ⟨b,o+i*5,none⟩=some (.int .i64 (pt L i).o)/\w.cell? ⟨b,o+i*5+1,none⟩=some (.int .i64 (pt L i).t)/\w.cell? ⟨b,o+i*5+2,none⟩=some (.int .i64 (pt L i).m)/\w.cell? ⟨b,o+i*5+3,none⟩=some (.slice x.1 (pt L i).cm.length x.2)/\w.cell? ⟨b,o+i*5+4,none⟩=some (.bool (pt L i).s))/\zjU w x.1 (pt L i).cm by
  by_cases hi:i<L.length
  ·obtain⟨b,o,e,c0,c1,c2,I,J,c3,hg,c4⟩:=M i hi;exact⟨(I,J),fun _=>⟨⟨b,o,e,c0,c1,c2,c3,c4⟩,hg.2⟩⟩
  ·exact⟨(none,0),fun h=>absurd h hi⟩)
 refine zzq 108 (yJ Tryz.func108 (by kernel_rfl) rfl) a c L.length (fun i=>⟨(pt L i).o,(pt L i).t,(pt L i).m,(f i).1,(pt L i).cm.length,(f i).2,(pt L i).s⟩) (RPt L) w (by omega) (fun i hi=>(F i hi).1) (fun i hi W O=>?_);refine(zsA (pt L i) (f i).1 (f i).2 W (E i hi).1 (E i hi).2 ((F i hi).2.below O)).mono ?_;rintro e w' ⟨g,rfl,D,hg,U⟩;exact⟨⟨(pt L i).o,(pt L i).t,(pt L i).m,some ⟨g,0,none⟩,(pt L i).cm.length,(pt L i).cm.length,(pt L i).s⟩,rfl,D,fun w2 T=>⟨rfl,rfl,rfl,rfl,(zuR.made U hg (yj _)).off T (fun b D=>D)⟩⟩
theorem ziS(a:Option Addr)(c:Nat)(L:List Pt)(w:World)(O:L.length<=12)(I:zxe L)(J:zdr w a L) :
  yL 78 #[.slice a L.length c] w fun e w' => e=.returned (.slice (some ⟨w.heap.size,0,none⟩) L.length L.length)/\Below w.heap.size w w' /\ zaA zvl 121 5 L.length (RPt L) w.heap.size L.length w' := by
 have D:Hid (Calls _ _ _ _ _):=zqn a c L w O I J;clear I J;generalize L.length=n at *
 go_enter Tryz.func78,Tryz.ntmps78
 go_wp2_with (go_at_call 107;refine D.out.mono ?_;rintro e w3 ⟨rfl,E,F⟩;have M:Hid _:=F;clear F)
 go_ret;exact⟨rfl,E,M.out⟩
theorem zdX(a:Option Addr)(c:Nat)(L:List Pt)(w:World)(I:L.length<=12)(E:zxe L)(F:zdr w a L) :
  yL 78 #[.slice a L.length c] w fun e w' => ∃ K lo hi,e=.returned (.slice (some ⟨w.heap.size,0,none⟩) L.length L.length)/\Below w.heap.size w w' /\ CpI w.heap.size L K lo hi L.length w' := by
 refine(ziS a c L w I E F).mono ?_;rintro e w' ⟨rfl,J,h⟩;obtain⟨K,lo,hi,D⟩:=zoZ (by omega) h;exact⟨K,lo,hi,rfl,J,D⟩
end Go.Proofs.YtcbcpomacdngmaaGreat
