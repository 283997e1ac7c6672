/-
  x
-/
import Derived.Test.YtcbcpomacdngmaaGreatS20
namespace Go.Proofs.YtcbcpomacdngmaaGreat
set_option maxRecDepth 100000
set_option maxHeartbeats 4000000
set_option linter.unusedVariables false
open Go.RowKit Go.ChangeShapes Go.WideShapes
theorem zhw{m:Nat}:∀ {l:List Cl},cellsE m l=0↔∀ x ∈ l,zeZ m x=0
 | []=>by simp[cellsE]
 | x :: l=>by
  rw[cellsE];by_cases h:zeZ m x=0
  ·rw[yb h,zhw];simp[h]
  ·rw[ya h];simp[h]
theorem zht{m:Nat}{x:Cl}(h:zeZ m x=0):(-1000000<=x.n/\x.n<=1000000)/\x.ks.length<=8/\∀ k ∈ x.ks,∃ q:Nat,k=q/\q<m:=by
 unfold zeZ at h
 split at h
 ·omega
 ·rename_i h1
  split at h
  ·omega
  ·rename_i I
   split at h
   ·omega
   ·rename_i D;refine⟨by omega,by omega,fun k F=>?_⟩;simp only[List.any_eq_true,not_exists,not_and] at D;have E:=D k F;simp only[Bool.not_eq_true', decide_eq_false_iff_not,Decidable.not_not] at E;exact⟨k.toNat,by omega,by omega⟩
theorem zyb{m:Nat}{x:Cl}(h1:-1000000<=x.n/\x.n<=1000000)(F:x.ks.length<=8)(D:∀ k ∈ x.ks,∃ q:Nat,k=q/\q<m):zeZ m x=0:=by
 unfold zeZ;rw[ya (by omega),ya (by omega),ya];simp only[List.any_eq_true,not_exists,not_and];intro k E;obtain⟨q,e,I⟩:=D k E;simp only[Bool.not_eq_true', decide_eq_false_iff_not,Decidable.not_not];omega
structure Right (G:List Cl):Prop where
 few:G.length<=24
 range:∀ i,i<G.length->-1000000<=(cl G i).n/\(cl G i).n<=1000000
 kids8:∀ i,i<G.length->(cl G i).ks.length<=8
 kids:zdC G
theorem zbF{G:List Cl}:zav G=0↔Right G:=by
 unfold zav;constructor
 ·intro h
  split at h
  ·omega
  ·rename_i hl;have h1:=zhw.1 h;have D:∀ i,i<G.length->zeZ G.length (cl G i)=0:=fun i hi=>h1 _ (by rw[zcs hi];exact List.getElem_mem hi);exact⟨by omega,fun i hi=>(zht (D i hi)).1,fun i hi=>(zht (D i hi)).2.1,fun i hi=>(zht (D i hi)).2.2⟩
 ·intro h;rw[ya (by have:=h.few;omega),zhw];intro x E;obtain⟨i,hi,rfl⟩:=List.getElem_of_mem E;have:=zyb (m:=G.length) (h.range i hi) (h.kids8 i hi) (h.kids i hi)
  rwa [zcs hi] at this
theorem Right.copy{G:List Cl}(h:Right G):Right (zbt G):=by
 by_cases h0:G.length=0
 ·rw[zhy h0];exact⟨by simp,(fun i hi=>by cases hi),(fun i hi=>by cases hi),(fun i hi=>by cases hi)⟩
 ·have h0:0<G.length:=by omega
  have hl:=zfg h0;have F:=zuB h.kids h0
  have E:∀ i,i<(zbt G).length->∃ q:Nat,q<G.length/\cl (zbt G) i=zqw G (reach G) (q:Int):=fun i hi=>by
   rw[hl] at hi;obtain⟨q,e,D⟩:=(zim h.kids h0).2 ((reach G).getD i 0) (by rw[zae _ _ hi];exact List.getElem_mem hi);exact⟨q,D,by rw[zlu h0 hi,e]⟩
  refine⟨by have:=h.few;omega,fun i hi=>?_,fun i hi=>?_,zqA h.kids⟩
  ·obtain⟨q,D,e⟩:=E i hi;rw[e];have:=h.range q D;simpa [zqw] using this
  ·obtain⟨q,D,e⟩:=E i hi;rw[e];have:=h.kids8 q D;simpa [zqw] using this
theorem Right.big{G:List Cl}(h:Right G):zjV G:=fun i hi=>by have:=h.kids8 i hi;omega
def zzs(G:List Cl):List Cl:=if zav G=0 then zbt G else []
theorem zib.nil(B:Nat)(w:World):zib B [] (fun _=>.slice none 0 0) (.slice none 0 0) w:=⟨World.ownsRow_nil _ _ _ _,fun i hi=>by cases hi⟩
theorem ztd(a:Option Addr)(c:Nat)(G:List Cl)(w:World)(hN:G.length<=9223372036854775807)(hB:zjV G)(hS:zaI w a G) :
  yM 160 #[.agg #[.slice a G.length c]] w fun e w' => ∃ v,e=.returned (.tuple #[.agg #[v],.int .i64 (zav G)])/\Below w.heap.size w w' /\ ∃ K,zib w.heap.size (zzs G) K v w' := by
 have D:Hid (∀ W,zaI W a G->Calls _ _ _ _ _):=fun W hW=>zfN a c G W hN hB hW;have HS:Hid (zaI w a G):=hS;have RF:Hid (zzs G=if zav G=0 then zbt G else []):=(rfl:zzs G=_);have CF:Hid (zav G=0->0<G.length->∀ W,zaI W a G->Calls _ _ _ _ _):=fun h1 h2 W hW=>zmy a c G W (zbF.1 h1).kids h2 (zbF.1 h1).few (zbF.1 h1).kids8 hW;have NO:Hid (G.length=0->zbt G=[]):=zhy;clear hS hB;generalize zzs G=R at *;generalize zav G=E at *;obtain⟨n,hn⟩:∃ n,G.length=n:=⟨_,rfl⟩;rw[hn] at hN D CF NO |-;clear hn;have O:(((w.alloc (.cells #[.slice a n c] 47)).alloc (.cells #[.slice none 0 0] 47)).frozen? ⟨w.heap.size+1,0,none⟩=false):=by go_simp
 go_enter Tryz.func160,Tryz.ntmps160
 go_wp2_with fail
 refine ye (D.out _ (HS.out.below (zaf _ _ _))) ?_;rintro e U ⟨rfl,F⟩;have l0:=zab (zax w #[.slice a n c] 47 0 (.cells #[.slice none 0 0] 47) rfl) F;have T:=zab (zay w #[.slice none 0 0] 47 0 (.cells #[.slice a n c] 47) rfl) F;have f1:=(F.frozen (p:=⟨w.heap.size+1,0,none⟩) (by simp)).trans O;have a9:=F.size;simp only[yr] at a9;have q1:w.heap.size+1<U.heap.size:=by omega
 have M:Hid (Below w.heap.size w U):=(zaf w _ _).trans (F.mono (by simp;omega));have r0:∀ u v,(U.setCell ⟨w.heap.size+1,0,none⟩ u).cell? ⟨w.heap.size+1,0,none⟩=some v↔u=v:=fun u v=>by rw[World.cell?_setCell_same _ _ _ T];simp
 clear F D O;by_cases hE:E=0
 ·subst hE;have I:Hid (R=zbt G):=by show _=_;rw[RF.out,yb rfl]
  by_cases h0:n=0
  ·have a8:Hid (R=[]):=I.out.trans (NO.out h0);subst h0;have r1:(U.setCell ⟨w.heap.size+1,0,none⟩ (.slice none 0 0)).cell? ⟨w.heap.size+1,0,none⟩=some (.slice none 0 0):=World.cell?_setCell_same _ _ _ T;clear r0
   go_wp2_with fail
   refine yw (v:=.tuple #[.agg #[.slice none 0 0],.int .i64 0]) (by simp[results,Tryz.results160,go_sem,r1]) rfl ⟨_,rfl,M.out.setCell (by show w.heap.size<=w.heap.size+1;omega) _,_,(show zib _ R _ _ _ by rw[a8.out];exact zib.nil _ _)⟩
  ·have b0:decide ((n:Int)=0)=false:=yF (by omega);have b1:((n:Int) == 0)=false:=(by simp;omega);have a5:Hid _:=CF.out rfl (by omega);clear r0
   go_wp2_with fail
   refine ye (a5.out _ (HS.out.below M.out)) ?_;rintro e Z ⟨v,K,rfl,F,J⟩;obtain⟨va,vc,hv,_⟩:=J.cls;subst hv;have m1:=zab T F;have g1:=(F.frozen (p:=⟨w.heap.size+1,0,none⟩) (by exact q1)).trans f1;have q2:w.heap.size+1<Z.heap.size:=yz q1 F.size;have r1:∀ u,(Z.setCell ⟨w.heap.size+1,0,none⟩ u).cell? ⟨w.heap.size+1,0,none⟩=some u:=fun u=>World.cell?_setCell_same _ _ _ m1;have a6:Hid (∀ u,Below w.heap.size w (Z.setCell ⟨w.heap.size+1,0,none⟩ u)):=fun u=>(M.out.trans (F.mono M.out.size)).setCell (by show w.heap.size<=w.heap.size+1;omega) _
   have a7:Hid (∀ u,zib w.heap.size R K (.slice va (zbt G).length vc) (Z.setCell ⟨w.heap.size+1,0,none⟩ u)):=fun u=>by
    rw[I.out];have h1:=J.kept (w' := Z.setCell ⟨w.heap.size+1,0,none⟩ u) (fun j h1 _ _=>yv _ _ _ _ (by show j≠w.heap.size+1;omega));exact⟨zaV h1.1 (by omega),fun i hi=>zaV (h1.2 i hi) (by omega)⟩
   clear F J l0 T I RF NO;generalize (zbt G).length=m at *
   go_wp2_with fail
   refine yw (v:=.tuple #[.agg #[.slice va m vc],.int .i64 0]) (by simp[results,Tryz.results160,go_sem,r1]) rfl ⟨_,rfl,a6.out _,K,a7.out _⟩
 ·have I:Hid (R=[]):=by show _=_;rw[RF.out,ya hE]
  have e1:(E == 0)=false:=beq_eq_false_iff_ne.2 hE;have e2:decide (E=0)=false:=yF hE;have r1:(U.setCell ⟨w.heap.size+1,0,none⟩ (.slice none 0 0)).cell? ⟨w.heap.size+1,0,none⟩=some (.slice none 0 0):=World.cell?_setCell_same _ _ _ T;clear r0
  go_wp2_with fail
  refine yw (v:=.tuple #[.agg #[.slice none 0 0],.int .i64 E]) (by simp[results,Tryz.results160,go_sem,r1]) rfl ⟨_,rfl,M.out.setCell (by show w.heap.size<=w.heap.size+1;omega) _,_,(show zib _ R _ _ _ by rw[I.out];exact zib.nil _ _)⟩
theorem zyu(a:Option Addr)(c:Nat)(S:List Nd)(k:Nat)(u:Int)(w:World)(hN:S.length<=24)(hB:∀ i,i<S.length->(nd S i).ks.length<=1000)(hS:zai w a S)(hk:k<S.length)(I:zaG S k u=0)(hT:zge S k) :
  yM 167 #[.agg #[.slice a S.length c],.agg #[.int .i64 k,.int .i64 u]] w fun e w' => ∃ g,e=.returned (.tuple #[.agg #[.slice (some ⟨g,0,none⟩) S.length S.length],.int .i64 0])/\Below w.heap.size w w' /\ w.heap.size<=g/\∀ w3:World,(∀ b,g<=b->w3.heap[b]?=w'.heap[b]?)->zai w3 (some ⟨g,0,none⟩) (S.set k (zcV (nd S k))):=by
 have hK:=yH (hB k hk) (show 1000<=1000000 by omega);have dc:=fun(W:World) (hW:zai W a S)=>copy_any a c S W hN hB hW;have DC:Hid _:=dc;replace hB:Big S:=fun i hi=>yH (hB i hi) (by omega);have D1:Hid (∀ W,zai W a S->Calls _ _ _ _ _):=fun W hW=>find_ok a c S k u W (by omega) hB hW hk I hK;obtain⟨r,hr⟩:∃ r,zam (nd S k)=r:=⟨_,rfl⟩;obtain⟨h3,c6⟩:∃ b,zfp S k=b:=⟨_,rfl⟩;have d2:=fun(v:Value) W=>zdQ (nd S k) v W;rw[show (if (nd S k).h = -1 then (nd S k).p else (nd S k).h)=r from hr] at d2;have D2:Hid _:=d2;have d3:=fun W hW=>zee a c S (k:Int) W (by omega) hW (by omega);rw[c6] at d3;have D3:Hid _:=d3;have HS:Hid (zai w a S):=hS;have N8:Hid (∀ (w w3:World) (B g:Nat) (kb kc:Nat->Nat),Own w B g S kb kc S.length->_->zai w3 (some ⟨g,0,none⟩) (S.set k (zcV (nd S k)))):=fun w w3 B g kb kc h c7=>Own.nil8 h hk (zcV (nd S k)) rfl w3 c7
 have OC:Hid (∀ (wr:World) (B g:Nat) (kb kc:Nat->Nat),Own wr B g S kb kc S.length->(g<wr.heap.size/\(∀ o,wr.frozen? ⟨g,o,none⟩=false)/\(∃ v0 v1 v2 v3 v4 v5 v6 v7,wr.cell? ⟨g,k*8,none⟩=some v0/\wr.cell? ⟨g,k*8+1,none⟩=some v1/\wr.cell? ⟨g,k*8+2,none⟩=some v2/\wr.cell? ⟨g,k*8+3,none⟩=some v3/\wr.cell? ⟨g,k*8+4,none⟩=some v4/\wr.cell? ⟨g,k*8+5,none⟩=some v5/\wr.cell? ⟨g,k*8+6,none⟩=some v6/\wr.cell? ⟨g,k*8+7,none⟩=some v7))):=fun wr B g kb kc h=>by
  obtain⟨_,F,I,h2,_⟩:=h;exact⟨I.lt,I.frozen,_,_,_,_,_,_,_,_,I.cell (by omega),I.cell (by omega),I.cell (by omega),I.cell (by omega),I.cell (by omega),I.cell (by omega),I.cell (by omega),I.cell (by omega)⟩
 obtain⟨t1,t2,t3⟩:=hT;rw[hr] at t1;rw[c6] at t3;subst t1 t3;have t4:(nd S k).ks.length=0:=by rw[t2];rfl
 have h4:(k:Int)<(S.length:Int):=by omega
 have h6:decide ((k:Int)<0)=false:=yF (by omega);unfold zcV at N8 |-;clear hS d2 d3 dc I hB hr c6 t2 hK;generalize hx:nd S k=x at *;clear hx;obtain⟨xu,xn,xt,xm,xp,g6,xh,xc⟩:=x;dsimp only at *;generalize g6.length=L at *;subst t4;generalize hn:S.length=n at *;clear hn
 go_enter Tryz.func167,Tryz.ntmps167
 go_wp2_with (go_at_call 14;refine(D1.out _ (HS.out.below (zar _ _ _ _))).mono ?_;rintro e O ⟨kg,rfl,M,g5⟩;clear g5;simp only[yr] at M;obtain⟨l0,l1,l2,l3,z3⟩:=zbQ M;have b4:=M.size;simp only[yr] at b4;have q0:w.heap.size<O.heap.size:=(by omega);have q1:w.heap.size+1<O.heap.size:=(by omega);have q2:w.heap.size+1+1<O.heap.size:=(by omega))
 refine(D2.out _ _).mono ?_;rintro e w2 ⟨rfl,a7⟩;simp only[yr] at a7;obtain⟨a5,n0,n1,n2,n3,n4,n5,n6,n7⟩:=zeF M b4 a7;have e9:=a7.size;simp only[yr] at e9;clear l0 l1 l2 l3 z3;obtain⟨l0,l1,l2,l3,z3⟩:=zbQ a5;have a9:Hid (Below w.heap.size w w2):=(zar _ _ _ _).trans (a5.mono (by omega));have b9:Hid _:=M;have c9:Hid _:=a7;have q3:O.heap.size<w2.heap.size:=by omega
 clear M a7 a5
 go_wp2_with fail
 refine(D3.out _ (HS.out.below a9.out)).mono ?_;rintro e w3 ⟨rfl,b1⟩;have h7:=b1.size;have E:Hid (Below w.heap.size w w3):=a9.out.trans (b1.mono (by have:=a9.out.size;omega));have a8:=c9.out.trans (b1.mono e9);clear l0 l1 l2 l3 z3 n0 n1 n2 n3 n4 n5 n6 n7 b1 c9;obtain⟨b7,n0,n1,n2,n3,n4,n5,n6,n7⟩:=zeF b9.out b4 a8;obtain⟨l0,l1,l2,l3,z3⟩:=zbQ b7;have r1:O.heap.size<w3.heap.size:=by omega
 have r2:w.heap.size<w3.heap.size:=by omega
 have r3:w.heap.size+1<w3.heap.size:=by omega
 have r4:w.heap.size+1+1<w3.heap.size:=by omega
 have b5:Hid _:=a8;clear b7 a8
 go_wp2_with fail
 refine(DC.out _ (HS.out.below E.out)).mono ?_;rintro e T ⟨g,kb,kc,rfl,b2,b0⟩;have hg:w3.heap.size<=g:=b0.1;have g0:O.heap.size+1<=w3.heap.size:=by omega
 have b8:=b5.out.trans (b2.mono g0);have h8:=b2.size;have Z:Hid (Below w.heap.size w T):=E.out.trans (b2.mono (by have:=E.out.size;omega));clear l0 l1 l2 l3 z3 n0 n1 n2 n3 n4 n5 n6 n7 b5;obtain⟨a6,n0,n1,n2,n3,n4,n5,n6,n7⟩:=zeF b9.out b4 b8;obtain⟨l0,l1,l2,l3,z3⟩:=zbQ a6;obtain⟨g8,e7,v0,v1,v2,v3,v4,v5,v6,v7,d0,d1,d2,d3,d4,d5,d6,d7⟩:=OC.out _ _ _ _ _ b0;have g7:O.heap.size<g:=by omega
 have d8:Hid (Own T w3.heap.size g S kb kc n):=b0;have U:Hid _:=a6;clear a6 b8 b0 b2 hg
 go_wp2_with fail
 have t1:O.heap.size<T.heap.size:=by omega
 obtain⟨D,J⟩:∃ D,D=T.alloc (Obj.cells #[Value.slice (some ⟨g,0,none⟩) n n] 43):=⟨_,rfl⟩;rw[<- J];have k8:D.cell? ⟨T.heap.size,0,none⟩=some (.slice (some ⟨g,0,none⟩) n n):=by rw[J];go_simp
 have k9:D.cell? ⟨O.heap.size,1,none⟩=some (.int .i64 xn):=by rw[J];go_simp
 have g4:D.heap.size=T.heap.size+1:=by rw[J];simp
 have b3:Below T.heap.size T D:=by rw[J];exact(yk _ _).alloc (yj _) _
 have e0:=U.out.trans (b3.mono (by have:=U.out.size;simp at this;omega));have b6:Hid (Below w.heap.size w D):=Z.out.trans (b3.mono Z.out.size);have d9:Hid (Own D w3.heap.size g S kb kc n):=Own.below d8.out b3;clear l0 l1 l2 l3 z3 n0 n1 n2 n3 n4 n5 n6 n7 d0 d1 d2 d3 d4 d5 d6 d7 e7 d8 U J b3;obtain⟨l0,l1,l2,l3,z3⟩:=zbQ e0;obtain⟨_,e7,i2,i3,i4,i5,i6,i7,i8,i9,d0,d1,d2,d3,d4,d5,d6,d7⟩:=OC.out _ _ _ _ _ d9.out;have u1:T.heap.size<D.heap.size:=by omega
 have u2:O.heap.size<D.heap.size:=by omega
 have u3:w.heap.size+1<D.heap.size:=by omega
 have u4:w.heap.size+1+1<D.heap.size:=by omega
 have u5:g<D.heap.size:=by omega
 have u6:w.heap.size+1+1<g:=by omega
 have g9:Hid (D.heap.size=T.heap.size+1):=g4;clear e0 g4;have h9:=World.new_ne D _ k8;have i0:=World.new_ne D _ k9;have i1:=World.new_ne D _ l1;have e1:¬ g=T.heap.size:=by omega
 have e2:¬ T.heap.size=g:=by omega
 have e3:¬ g=w.heap.size+1:=by omega
 have e4:¬ w.heap.size+1=g:=by omega
 have e5:¬ g=O.heap.size:=by omega
 have e6:¬ O.heap.size=g:=by omega
 clear Z E a9 b9 HS D1 D2 D3 DC OC
 go_region_held3 (fun c8=>c8.cell? ⟨T.heap.size,0,none⟩=some (.slice (some ⟨g,0,none⟩) n n)/\c8.cell? ⟨w.heap.size+1,0,none⟩=some (.int .i64 k)/\c8.cell? ⟨O.heap.size,1,none⟩=some (.int .i64 xn)) (go_keep) (first|(go_at_call 93;refine(zhZ _ _).mono ?_;rintro e w' ⟨rfl,rfl⟩))
 all_goals (try go_wp2)
 all_goals
  refine yw (v:=.tuple #[.agg #[.slice (some ⟨g,0,none⟩) n n],.int .i64 0]) (by simp only[results,Tryz.results167];go_simp) rfl ⟨g,rfl,?_,by omega,fun w3 c7=>?_⟩
  ·first
    | exact((((((((((b6.out.setCell (by simp;omega) _).setCell (by simp;omega) _).setCell (by simp;omega) _).setCell (by simp;omega) _).setCell (by simp;omega) _).setCell (by simp;omega) _).setCell (by simp;omega) _).setCell (by simp;omega) _).setCell (by simp;omega) _).alloc (by simp;omega) _).drew
    | exact((((((((((b6.out.setCell (by simp;omega) _).setCell (by simp;omega) _).setCell (by simp;omega) _).setCell (by simp;omega) _).setCell (by simp;omega) _).setCell (by simp;omega) _).setCell (by simp;omega) _).setCell (by simp;omega) _).alloc (by simp;omega) _).setCell (by simp;omega) _).drew
  ·refine N8.out D w3 _ g kb kc d9.out (fun b hb e8=>(c7 b hb).trans ?_)
   first
    |(rw[heap_drew,((yk _ _).alloc (yj _) _).block b (by simpa using e8),yv _ _ _ _ (by show b≠w.heap.size+1+1;omega)])
    |(rw[heap_drew,yv _ _ _ _ (by show b≠w.heap.size+1+1;omega),((yk _ _).alloc (yj _) _).block b (by simpa using e8)])
def rS(E:Int)(T:List Nd):List Nd:=if E=0 then T else []
def rH(E:Int)(h:Int × Int):Int × Int:=if E=0 then h else (0,0)
theorem zhQ{T:List Nd}:rS 0 T=T:=rfl
theorem zjD{E:Int}{T:List Nd}(h:E≠0):rS E T=[]:=ya h
theorem zwX{E:Int}{T:Int × Int}(h:E≠0):rH E T=(0,0):=ya h
theorem zdF(W:World):zai W none []:=fun _ hi=>absurd hi (yx _)
abbrev znO(f:Nat)(S T:List Nd)(more:Array Value)(E:Int):Prop:=∀ (a:Option Addr) (c:Nat) W,zai W a S ->
 yM f (#[.agg #[.slice a S.length c]] ++ more) W fun e w' => ∃ D F,e=.returned (.tuple #[.agg #[.slice D T.length F],.int .i64 E])/\Below W.heap.size W w' /\ St (fun b=>b<W.heap.size) (fun V=>zai V D T) w'
theorem zyZ{w' : World}{a:Option Addr}{T:List Nd}{B g:Nat}(hg:B<=g)(hn:∀ w3:World,(∀ b,g<=b->w3.heap[b]?=w'.heap[b]?)->zai w3 a T):St (fun b=>b<B) (fun V=>zai V a T) w' := fun V E=>by
 have e:∀ b,b<w'.heap.size->(V.heap.extract 0 w'.heap.size)[b]?=V.heap[b]?:=fun b F=>by
  have:=E.size;simp[Array.getElem?_extract];omega
 have h:=hn { V with heap:=V.heap.extract 0 w'.heap.size } (fun b F=>by
  show (V.heap.extract 0 w'.heap.size)[b]?=w'.heap[b]?;by_cases h1:b<w'.heap.size
  ·rw[e b h1];exact E.block b h1 (by show ¬ b<B;omega)
  ·rw[Array.getElem?_eq_none (by simp;omega),Array.getElem?_eq_none (by omega)])
 have D:(V.heap.extract 0 w'.heap.size).size=w'.heap.size:=by have:=E.size;simp;omega
 exact h.below ⟨rfl,rfl,rfl,by show (V.heap.extract 0 w'.heap.size).size<=_;rw[D];exact E.size,fun b F=>(e b (by rw[<- D];exact F)).symm⟩
abbrev hdV(h:Int × Int):Value:=.agg #[.int .i64 h.1,.int .i64 h.2]
def zvm(f:Nat):Prop:=∀ (S:List Nd) (h:Int × Int),WF S->znO f S (rS (ztb S h.1 h.2) (S.set h.1.toNat (zcV (nd S h.1.toNat)))) #[hdV h] (ztb S h.1 h.2)
def zqq(f:Nat):Prop:=∀ (S:List Nd) (h:Int × Int),WF S->znO f S (rS (zAr S h.1 h.2) (leaveG S h.1.toNat)) #[hdV h] (zAr S h.1 h.2)
def zqo(f:Nat):Prop:=∀ (S:List Nd) (h g:Int × Int) (hs:List (Int × Int)) (ha:Option Addr) (hc:Nat),WF S->hs.length<=1->∀ (a:Option Addr) (c:Nat) W,zai W a S->zas W ha hs ->
 yM f #[.agg #[.slice a S.length c],hdV h,hdV g,.slice ha hs.length hc] W fun e w' => ∃ D E,e=.returned (.tuple #[.agg #[.slice D (rS (zjX S h.1 h.2 g.1 g.2 hs) (zpD S h.1 g.1 hs)).length E],.int .i64 (zjX S h.1 h.2 g.1 g.2 hs)])/\Below W.heap.size W w' /\ St (fun b=>b<W.heap.size) (fun V=>zai V D (rS (zjX S h.1 h.2 g.1 g.2 hs) (zpD S h.1 g.1 hs))) w'
def zvl(f:Nat):Prop:=∀ (S:List Nd) (h:Int × Int) (t m:Int) (qa:Option Addr) (qc:Nat),WF S->∀ (a:Option Addr) (c:Nat) W,zai W a S->zch W qa [⟨t,m,false⟩] ->
 yM f #[.agg #[.slice a S.length c],hdV h,.slice qa 1 qc] W fun e w' => ∃ D E n,e=.returned (.tuple #[.slice D n E,.int .i64 (zyg S h.1 h.2 [⟨t,m,false⟩])])/\Below W.heap.size W w' /\ n=if zyg S h.1 h.2 [⟨t,m,false⟩]=0 then (zgS S h.1.toNat [⟨t,m,false⟩]).length else 0
def zxQ(f:Nat):Prop:=∀ (S:List Nd) (h:Int × Int),WF S->∀ (a:Option Addr) (c:Nat) W,zai W a S ->
 yM f #[.agg #[.slice a S.length c],hdV h] W fun e w' => ∃ D E n,e=.returned (.tuple #[.slice D n E,.int .i64 (zaG S h.1 h.2)])/\Below W.heap.size W w' /\ n=if zaG S h.1 h.2=0 then (zja S h.1.toNat).length else 0
theorem zfB(S:List Nd)(p u:Int):zaY S [(p,u)]=zaG S p u:=by
 unfold zaY zaG zfj zfj;by_cases h:zda S p u=0
 ·simp[h]
 ·simp[h]
theorem zxK{S:List Nd}(wf:WF S){D:Nat}(hch:D<S.length):(nd S D).p = -1\/∃ E:Nat,E<S.length/\E≠D/\(nd S D).p=E:=by
 by_cases e:(nd S D).p = -1
 ·exact Or.inl e
 ·obtain⟨E,F,g1,g2,_⟩:=wf.parent_place hch e;exact Or.inr ⟨E,g1,g2,F⟩
theorem zdw{S:List Nd}(wf:WF S):∀ i,i<S.length->(nd S i).ks.length<=1000:=fun i hi=>by have:=wf.kids_small hi;omega
theorem zvU:zvm 167:=fun S h wf a c W I=>by
 obtain⟨P,U⟩:=h;dsimp only[hdV];have M:S.length<=9223372036854775807:=by have:=wf.small;omega
 unfold ztb;by_cases D:zaG S P U=0
 ·rw[yb D];obtain⟨_,k,e,J,T,O⟩:=zcD D;subst e;rw[yi];by_cases hl:zge S k
  ·rw[yb hl,zhQ];refine(zyu a c S k U W wf.small (zdw wf) I J D hl).mono (fun e w' ⟨g,E,F,hg,hn⟩=>⟨some ⟨g,0,none⟩,S.length,?_,F,zyZ hg hn⟩);rw[E,List.length_set]
  ·rw[ya hl,zjD (by decide)];exact(ztc a c S k U W M wf.big I J D (by have:=zdw wf k J;omega) hl).mono (fun e w' ⟨E,F⟩=>⟨none,0,E,F,fun V _=>zdF V⟩)
 ·rw[ya D,zjD D];exact(zvV a c S P U _ W M wf.big I rfl D).mono (fun e w' ⟨E,F⟩=>⟨none,0,E,F,fun V _=>zdF V⟩)
theorem zrz:zqq 168:=fun S h wf a c W J=>by
 obtain⟨P,U⟩:=h;dsimp only[hdV];have Z:S.length<=9223372036854775807:=by have:=wf.small;omega
 unfold zAr;by_cases D:zaG S P U=0
 ·rw[yb D];obtain⟨_,k,e,M,hu,a5⟩:=zcD D;subst e;rw[yi];have hT:zaY S [((k:Int),U)]=0:=(zfB _ _ _).trans D;rcases zxK wf M with hp |⟨p0,O,T,I⟩
  ·rw[yb hp,zjD (by decide)];exact(zoY a c S k U W Z wf.big J hT M hp).mono (fun e w' ⟨E,F⟩=>⟨none,0,E,F,fun V _=>zdF V⟩)
  ·have hG:leaveG S k=zbB S p0 k:=(by unfold leaveG;rw[ya (by omega),I,yi]);rw[ya (by omega),zhQ,hG];refine(zuE a c S k p0 U W wf.small wf.big J hT M O T I (zdw wf)).mono (fun e w' ⟨g,E,F,hg,hn⟩=>⟨some ⟨g,0,none⟩,S.length,?_,F,zyZ hg hn⟩);rw[E,zbG]
 ·rw[ya D,zjD D];exact(zrA a c S P U _ W Z wf.big J (zfB _ _ _) D).mono (fun e w' ⟨E,F⟩=>⟨none,0,E,F,fun V _=>zdF V⟩)
theorem zxq{S:List Nd}{P J C E:Int}{hs:List (Int × Int)}(wf:WF S)(hm:hs.length<=1):zrY S (rS (zjX S P J C E hs) (zpD S P C hs)) P C E hs (zaY S ((P,J) ::(C,E) :: hs)) (zjX S P J C E hs):=by
 by_cases F:zaY S ((P,J) ::(C,E) :: hs)=0
 ·obtain⟨_,O⟩:=zuU F;obtain⟨pa,e1,hpa,hpu,a9⟩:=O (P,J) (by simp);obtain⟨T,e2,hch,hcu,a6⟩:=O (C,E) (by simp);dsimp only at e1 e2 a9 a6;subst e1;subst e2;have hK:=zdw wf;refine .inr ⟨pa,T,rfl,rfl,F,wf.small,hpa,hch,fun Z=>?_,fun Z=>⟨fun h hh=>?_,?_⟩⟩
  ·have e:zjX S pa J T E hs=6:=(by unfold zjX;rw[yb F,yi,yi,ya (by rw[Z];decide)]);rw[e];exact⟨rfl,zjD (by decide)⟩
  ·obtain⟨q,e,hq,_⟩:=O h (by simp[hh]);exact⟨q,e,hq⟩
  ·have pt:zzm S pa T:=⟨wf,hpa,hch,hpu,hcu,Z⟩;obtain⟨f1,f2,f3⟩:=zkI Z;have hl:=zbh S T;have a5:=zxK wf hch;unfold zjX zpD;rw[yb F];simp only[yi];rw[yb Z]
   match hs,hm,F,O with
   | [],_,F,O =>
    exact⟨fun⟨h,hh,_⟩=>(by cases hh),fun _=>⟨rfl,hK,by rw[zhQ,zbp,hl],.inr ⟨by simp,f2,a5,(nd (leaveG S T) pa).ks.length,rfl,by omega,zhQ⟩⟩⟩
   | [(Q,qu)],_,F,O =>
    obtain⟨q,e3,hq,b3,b0⟩:=O (Q,qu) (by simp);dsimp only at e3 b0;subst e3;dsimp only;rw[yi]
    have I:∀ h ∈ [((q:Int),qu)],(nd S h.1.toNat).p=(nd S q).p:=fun h hh=>by
     have:h=((q:Int),qu):=(by simpa using hh);subst this;rw[yi]
    by_cases D:(nd S q).p=pa
    ·rw[yb D,zhQ];refine⟨fun⟨h,hh,a8⟩=>absurd ((I h hh).trans D) a8,fun _=>?_⟩;by_cases M:q=T
     ·subst M;have a7:E=qu:=(by omega);subst a7;rw[yb rfl];exact⟨rfl,hK,rfl,.inl ⟨List.mem_singleton.2 rfl,rfl⟩⟩
     ·rw[ya (by omega)];obtain⟨at', U,b1,b2⟩:=pt.ahead hq D M;rw[U,yi];exact⟨rfl,hK,by rw[zbp,hl],.inr ⟨fun e=>M (by have:=congrArg Prod.fst (List.mem_singleton.1 e);simp at this;omega),f2,a5,at', U,by omega,rfl⟩⟩
    ·rw[ya D];exact⟨fun _=>⟨rfl,zjD (by decide)⟩,fun h=>absurd ((I _ (List.mem_singleton.2 rfl)).symm.trans (h _ (List.mem_singleton.2 rfl))) D⟩
   | _ :: _ :: _,h,_,_=>exact absurd h (by simp)
 ·have e:zjX S P J C E hs=zaY S ((P,J) ::(C,E) :: hs):=by unfold zjX;rw[ya F]
  exact .inl ⟨F,e,by rw[e,zjD F]⟩
theorem zkL:zqo 192:=fun S h g hs ha hc wf D a c W M J =>
 (zqS a c S h.1 g.1 h.2 g.2 ha hc hs _ _ _ W (by have:=wf.small;omega) wf.big M J D rfl (zxq wf D)).mono (fun e w' ⟨E,F,I,O,hn⟩=>⟨E,F,I,O,zyZ (yj _) hn⟩)
theorem zsM:zvl 189:=fun S h t m qa qc wf a c W J M=>by
 obtain⟨P,U⟩:=h;dsimp only[hdV];have Z:S.length<=9223372036854775807:=by have:=wf.small;omega
 unfold zyg;by_cases D:zaG S P U=0
 ·rw[yb D];obtain⟨_,k,e,O,hu,a5⟩:=zcD D;subst e;rw[yi];by_cases I:zfz [⟨t,m,false⟩]=0
  ·rw[I,yb rfl];exact(zwV a c S k U qa qc [⟨t,m,false⟩] W wf O hu ((zfB _ _ _).trans D) J M I).mono (fun e w' ⟨T,fc,E,F,hi,_⟩=>⟨T,fc,_,E,F,rfl⟩)
  ·rw[ya I];exact(zux a c S k U _ qa qc [⟨t,m,false⟩] W wf O ((zfB _ _ _).trans D) J (by simp) M rfl I).mono (fun e w' ⟨E,F⟩=>⟨none,0,0,E,F,rfl⟩)
 ·rw[ya D,ya D];exact(zuy a c S P U _ _ W Z wf.big J (zfB _ _ _) D).mono (fun e w' ⟨E,F⟩=>⟨none,0,0,E,F,rfl⟩)
theorem zvS:zxQ 190:=fun S h wf a c W I=>by
 obtain⟨P,U⟩:=h;dsimp only[hdV];have J:S.length<=9223372036854775807:=by have:=wf.small;omega
 by_cases D:zaG S P U=0
 ·obtain⟨_,k,e,M,T,O⟩:=zcD D;subst e;rw[yi,D,yb rfl];exact(zys a c S k U W wf I M D).mono (fun e w' ⟨sa,sc,E,F,hi⟩=>⟨sa,sc,_,E,F,rfl⟩)
 ·rw[ya D];exact(zvT a c S P U _ W J wf.big I rfl D).mono (fun e w' ⟨E,F⟩=>⟨none,0,0,E,F,rfl⟩)
end Go.Proofs.YtcbcpomacdngmaaGreat
