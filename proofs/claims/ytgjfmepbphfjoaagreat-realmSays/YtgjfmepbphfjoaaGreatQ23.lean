/-
  x
-/
import Derived.Test.YtgjfmepbphfjoaaGreatQ22
namespace Go.Proofs.YtgjfmepbphfjoaaGreat
set_option maxRecDepth 100000
set_option maxHeartbeats 4000000
set_option linter.unusedVariables false
open Go.RowKit
theorem zrA(a:Option Addr)(c:Nat)(S:List Nd)(k:Nat)(u:Int)(w:World)(hN:S.length<=24)(hB:∀ i,i<S.length->(nd S i).ks.length<=1000)(hS:zae w a S)(hk:k<S.length)(I:zas S k u=0)(hT:zdS S k) :
  Calls Tryz.prog 57 #[.agg #[.slice a S.length c],.agg #[.int .i64 k,.int .i64 u]] w fun e w' => ∃ g,e=.returned (.tuple #[.agg #[.slice (some ⟨g,0,none⟩) S.length S.length],.int .i64 0])/\Below w.heap.size w w' /\ w.heap.size<=g/\∀ w3:World,(∀ b,g<=b->w3.heap[b]?=w'.heap[b]?)->zae w3 (some ⟨g,0,none⟩) (S.set k (zcg (nd S k))):=by
 have hK:=yx (hB k hk) (show 1000<=1000000 by omega);have dc:=fun(W:World) (hW:zae W a S)=>copy_any a c S W hN hB hW;have DC:Hid _:=dc;replace hB:Big S:=fun i hi=>yx (hB i hi) (by omega);have D1:Hid (∀ W,zae W a S->Calls _ _ _ _ _):=fun W hW=>find_ok a c S k u W (by omega) hB hW hk I hK;obtain⟨r,hr⟩:∃ r,zah (nd S k)=r:=⟨_,rfl⟩;obtain⟨g4,c8⟩:∃ b,zdq S k=b:=⟨_,rfl⟩;have d2:=fun(v:Value) W=>zdj (nd S k) v W;rw[show (if (nd S k).h = -1 then (nd S k).p else (nd S k).h)=r from hr] at d2;have D2:Hid _:=d2;have d3:=fun W hW=>zdr a c S (k:Int) W (by omega) hW (by omega);rw[c8] at d3;have D3:Hid _:=d3;have HS:Hid (zae w a S):=hS;have N8:Hid (∀ (w w3:World) (B g:Nat) (kb kc:Nat->Nat),Own w B g S kb kc S.length->_->zae w3 (some ⟨g,0,none⟩) (S.set k (zcg (nd S k)))):=fun w w3 B g kb kc h c9=>Own.nil8 h hk (zcg (nd S k)) rfl w3 c9
 have OC:Hid (∀ (wr:World) (B g:Nat) (kb kc:Nat->Nat),Own wr B g S kb kc S.length->(g<wr.heap.size/\(∀ o,wr.frozen? ⟨g,o,none⟩=false)/\(∃ v0 v1 v2 v3 v4 v5 v6 v7,wr.cell? ⟨g,k*8,none⟩=some v0/\wr.cell? ⟨g,k*8+1,none⟩=some v1/\wr.cell? ⟨g,k*8+2,none⟩=some v2/\wr.cell? ⟨g,k*8+3,none⟩=some v3/\wr.cell? ⟨g,k*8+4,none⟩=some v4/\wr.cell? ⟨g,k*8+5,none⟩=some v5/\wr.cell? ⟨g,k*8+6,none⟩=some v6/\wr.cell? ⟨g,k*8+7,none⟩=some v7))):=fun wr B g kb kc h=>by
  obtain⟨_,F,I,g3,_⟩:=h;exact⟨I.lt,I.frozen,_,_,_,_,_,_,_,_,I.cell (by omega),I.cell (by omega),I.cell (by omega),I.cell (by omega),I.cell (by omega),I.cell (by omega),I.cell (by omega),I.cell (by omega)⟩
 obtain⟨t1,t2,t3⟩:=hT;rw[hr] at t1;rw[c8] at t3;subst t1 t3;have t4:(nd S k).ks.length=0:=by rw[t2];rfl
 have g5:(k:Int)<(S.length:Int):=by omega
 have g6:decide ((k:Int)<0)=false:=decide_eq_false (by omega);unfold zcg at N8 |-;clear hS d2 d3 dc I hB hr c8 t2 hK;generalize hx:nd S k=x at *;clear hx;obtain⟨xu,xn,xt,xm,xp,f9,xh,xc⟩:=x;dsimp only at *;generalize f9.length=L at *;subst t4;generalize hn:S.length=n at *;clear hn
 go_enter Tryz.func57,Tryz.ntmps57
 go_wp2_with (go_at_call 10;refine(D1.out _ (HS.out.below (zal _ _ _ _))).mono ?_;rintro e O ⟨kg,rfl,M,f8⟩;clear f8;simp only[yk] at M;obtain⟨l0,l1,l2,l3,z3⟩:=zcb M;have b6:=M.size;simp only[yk] at b6;have q0:w.heap.size<O.heap.size:=(by omega);have q1:w.heap.size+1<O.heap.size:=(by omega);have q2:w.heap.size+1+1<O.heap.size:=(by omega))
 refine(D2.out _ _).mono ?_;rintro e w2 ⟨rfl,a5⟩;simp only[yk] at a5;obtain⟨Z,n0,n1,n2,n3,n4,n5,n6,n7⟩:=zdI M b6 a5;have hs2:=a5.size;simp only[yk] at hs2;clear l0 l1 l2 l3 z3;obtain⟨l0,l1,l2,l3,z3⟩:=zcb Z;have a7:Hid (Below w.heap.size w w2):=(zal _ _ _ _).trans (Z.mono (by omega));have c7:Hid _:=M;have d9:Hid _:=a5;have q3:O.heap.size<w2.heap.size:=by omega
 clear M a5 Z
 go_wp2_with fail
 refine(D3.out _ (HS.out.below a7.out)).mono ?_;rintro e w3 ⟨rfl,a9⟩;have g7:=a9.size;have D:Hid (Below w.heap.size w w3):=a7.out.trans (a9.mono (by have:=a7.out.size;omega));have a6:=d9.out.trans (a9.mono hs2);clear l0 l1 l2 l3 z3 n0 n1 n2 n3 n4 n5 n6 n7 a9 d9;obtain⟨b9,n0,n1,n2,n3,n4,n5,n6,n7⟩:=zdI c7.out b6 a6;obtain⟨l0,l1,l2,l3,z3⟩:=zcb b9;have r1:O.heap.size<w3.heap.size:=by omega
 have r2:w.heap.size<w3.heap.size:=by omega
 have r3:w.heap.size+1<w3.heap.size:=by omega
 have r4:w.heap.size+1+1<w3.heap.size:=by omega
 have b7:Hid _:=a6;clear b9 a6
 go_wp2_with fail
 refine(DC.out _ (HS.out.below D.out)).mono ?_;rintro e T ⟨g,kb,kc,rfl,b4,a8⟩;have hg:w3.heap.size<=g:=a8.1;have f6:O.heap.size+1<=w3.heap.size:=by omega
 have c6:=b7.out.trans (b4.mono f6);have g8:=b4.size;have V:Hid (Below w.heap.size w T):=D.out.trans (b4.mono (by have:=D.out.size;omega));clear l0 l1 l2 l3 z3 n0 n1 n2 n3 n4 n5 n6 n7 b7;obtain⟨a4,n0,n1,n2,n3,n4,n5,n6,n7⟩:=zdI c7.out b6 c6;obtain⟨l0,l1,l2,l3,z3⟩:=zcb a4;obtain⟨g1,e9,v0,v1,v2,v3,v4,v5,v6,v7,d0,d1,d2,d3,d4,d5,d6,d7⟩:=OC.out _ _ _ _ _ a8;have g0:O.heap.size<g:=by omega
 have e0:Hid (Own T w3.heap.size g S kb kc n):=a8;have U:Hid _:=a4;clear a4 c6 a8 b4 hg
 go_wp2_with fail
 have t1:O.heap.size<T.heap.size:=by omega
 obtain⟨A,J⟩:∃ A,A=T.alloc (Obj.cells #[Value.slice (some ⟨g,0,none⟩) n n] 24):=⟨_,rfl⟩;rw[<- J];have k8:A.cell? ⟨T.heap.size,0,none⟩=some (.slice (some ⟨g,0,none⟩) n n):=by rw[J];go_simp
 have k9:A.cell? ⟨O.heap.size,1,none⟩=some (.int .i64 xn):=by rw[J];go_simp
 have f7:A.heap.size=T.heap.size+1:=by rw[J];simp
 have b5:Below T.heap.size T A:=by rw[J];exact(yj _ _).alloc (yi _) _
 have e8:=U.out.trans (b5.mono (by have:=U.out.size;simp at this;omega));have b8:Hid (Below w.heap.size w A):=V.out.trans (b5.mono V.out.size);have e7:Hid (Own A w3.heap.size g S kb kc n):=Own.below e0.out b5;clear l0 l1 l2 l3 z3 n0 n1 n2 n3 n4 n5 n6 n7 d0 d1 d2 d3 d4 d5 d6 d7 e9 e0 U J b5;obtain⟨l0,l1,l2,l3,z3⟩:=zcb e8;obtain⟨_,e9,h4,h5,h6,h7,h8,h9,i0,i1,d0,d1,d2,d3,d4,d5,d6,d7⟩:=OC.out _ _ _ _ _ e7.out;have u1:T.heap.size<A.heap.size:=by omega
 have u2:O.heap.size<A.heap.size:=by omega
 have u3:w.heap.size+1<A.heap.size:=by omega
 have u4:w.heap.size+1+1<A.heap.size:=by omega
 have u5:g<A.heap.size:=by omega
 have u6:w.heap.size+1+1<g:=by omega
 have g2:Hid (A.heap.size=T.heap.size+1):=f7;clear e8 f7;have g9:=World.new_ne A _ k8;have h2:=World.new_ne A _ k9;have h3:=World.new_ne A _ l1;have e1:¬ g=T.heap.size:=by omega
 have e2:¬ T.heap.size=g:=by omega
 have e3:¬ g=w.heap.size+1:=by omega
 have e4:¬ w.heap.size+1=g:=by omega
 have e5:¬ g=O.heap.size:=by omega
 have e6:¬ O.heap.size=g:=by omega
 clear V D a7 c7 HS D1 D2 D3 DC OC
 go_region_held3 (fun d8=>d8.cell? ⟨T.heap.size,0,none⟩=some (.slice (some ⟨g,0,none⟩) n n)/\d8.cell? ⟨w.heap.size+1,0,none⟩=some (.int .i64 k)/\d8.cell? ⟨O.heap.size,1,none⟩=some (.int .i64 xn)) (go_keep) (first|(go_at_call 75;refine(zfL _ _).mono ?_;rintro e w' ⟨rfl,rfl⟩))
 all_goals (try go_wp2)
 all_goals
  refine yq (v:=.tuple #[.agg #[.slice (some ⟨g,0,none⟩) n n],.int .i64 0]) (by simp only[results,Tryz.results57];go_simp) rfl ⟨g,rfl,?_,by omega,fun w3 c9=>?_⟩
  ·first
    | exact((((((((((b8.out.setCell (by simp;omega) _).setCell (by simp;omega) _).setCell (by simp;omega) _).setCell (by simp;omega) _).setCell (by simp;omega) _).setCell (by simp;omega) _).setCell (by simp;omega) _).setCell (by simp;omega) _).setCell (by simp;omega) _).alloc (by simp;omega) _).drew
    | exact((((((((((b8.out.setCell (by simp;omega) _).setCell (by simp;omega) _).setCell (by simp;omega) _).setCell (by simp;omega) _).setCell (by simp;omega) _).setCell (by simp;omega) _).setCell (by simp;omega) _).setCell (by simp;omega) _).alloc (by simp;omega) _).setCell (by simp;omega) _).drew
  ·refine N8.out A w3 _ g kb kc e7.out (fun b hb f0=>(c9 b hb).trans ?_)
   first
    |(rw[heap_drew,((yj _ _).alloc (yi _) _).block b (by simpa using f0),yo _ _ _ _ (by show b≠w.heap.size+1+1;omega)])
    |(rw[heap_drew,yo _ _ _ _ (by show b≠w.heap.size+1+1;omega),((yj _ _).alloc (yi _) _).block b (by simpa using f0)])
theorem zhj{S:List Nd}(wf:WF S){k:Nat}(F:k<S.length):(∀ i,i<S.length->zgp S k i=false)↔zdS S k:=by
 constructor
 ·intro h
  have hs:∀ i,i<S.length->zah (nd S i)≠(k:Int):=fun i w e=>by
   have:=h i w;unfold zgp at this;simp[e] at this
  refine⟨?_,?_,?_⟩
  ·have:=h k F;unfold zgp at this;simp at this;exact this.1
  ·cases hks:(nd S k).ks with
   | nil=>rfl
   | cons x l =>
    exfalso;obtain⟨j,_,A,_,_,D⟩:=wf.kid F (x:=x) (by rw[hks];simp);exact hs j A D
  ·rw[zch];intro i w e;refine hs i w ?_;unfold zah;rw[ya (by omega)];exact e
 ·intro ⟨h1,A,D⟩ i w;unfold zgp
  have hr:zah (nd S i)≠(k:Int):=fun e=>by
   unfold zah at e
   split at e
   ·have:=(wf.in_kids w e).2;rw[A] at this;cases this
   ·exact zch.1 D i w e
  by_cases e:i=k
  ·subst e
   first|(simp[h1];done)|(simp[h1];omega)
  ·simp[e,hr]
theorem zmE(a:Option Addr)(c:Nat)(S:List Nd)(p u E:Int)(w:World)(hN:S.length<=9223372036854775807)(J:zeu a c S)(O:zae w a S)(M:zar S [(p,u)]=E)(D:E≠0) :
  Calls Tryz.prog 39 #[.agg #[.slice a S.length c],.agg #[.int .i64 p,.int .i64 u]] w fun e w' => e=.returned (.tuple #[.agg #[.slice none 0 0],.int .i64 E])/\Below w.heap.size w w' := by
 have I:=fun(W:World) (T:Option Addr) (hW:zae W a S) (Z:zam W T [(p,u)])=>zbd a c S T 1 [(p,u)] W hN J hW (by simp) Z;rw[M] at I;have U:Hid _:=I;have V:Hid (zae w a S):=O;have hz:(E == 0)=false:=by simp[D]
 have a5:(E != 0)=true:=by simp[D]
 clear O J I M;generalize S.length=n at *
 go_enter Tryz.func39,Tryz.ntmps39
 go_wp2_with (go_at_call 83;refine(U.out _ _ (V.out.below ((zal _ _ _ _).alloc (by simp;omega) _)) (zaV _ _ _ _ (by go_simp) (by go_simp))).mono ?_;rintro e w1 ⟨rfl,F⟩;simp only[yk] at F;obtain⟨l0,l1,l2,l3,z0,z1,a4,A⟩:=zei F)
 refine yq (v:=.tuple #[.agg #[.slice none 0 0],.int .i64 E]) (by simp[results,Tryz.results39,go_sem,l3]) rfl ⟨rfl,?_⟩
 first|exact A.setCell (by simp;omega) _|exact(A.setCell (by simp;omega) _).drew
theorem zca.putK{B:Nat}{S:List Nd}{q:Nat}{K:Nat->Value}{g cap:Nat}{w:World}(h:zca B S q K (.slice (some ⟨g,0,none⟩) q cap) w){k:Nat}(O:k<q)(hq:S.length=q)(A:List Int)(F:Value)(J:w.ownsRow B 3 1 F A.length (A.map (Value.int .i64))) :
  zca B (S.set k ⟨(nd S k).u,(nd S k).n,(nd S k).t,(nd S k).m,(nd S k).p,A,(nd S k).h,(nd S k).c⟩) q (fun i=>if i=k then F else K i) (.slice (some ⟨g,0,none⟩) q cap) (w.setCell ⟨g,k*8+5,none⟩ F):=by
 refine h.put (j:=5) (by omega) (fun i I M D=>?_) (fun i I=>?_)
 ·by_cases e:i=k
  ·subst e;rw[zay S i i _ (by omega),yd rfl];simp only[if_true]
   match M,D with
   | 0,_|1,_|2,_|3,_|4,_|5,_|6,_|7,_=>rfl
  ·rw[zay S k i _ (by omega),ya e];simp only[ya e];rw[ya (fun hh=>e hh.1)]
 ·by_cases e:i=k
  ·subst e;rw[zay S i i _ (by omega),yd rfl];simp only[if_true];exact J
  ·rw[zay S k i _ (by omega),ya e];simp only[ya e];exact h.2 i I
def woF(k:Int)(ks:List Int):List Int:=flt (fun x=>decide (x=k)) ks
theorem zfT(ka:Option Addr)(kc:Nat)(ks:List Int)(k:Int)(w:World)(hl:ks.length<=1000)(hI:zaj w ka ks) :
  Calls Tryz.prog 85 #[.slice ka ks.length kc,.int .i64 k] w fun e w' => ∃ v,e=.returned v/\Below w.heap.size w w' /\ w'.ownsRow w.heap.size 3 1 v (woF k ks).length ((woF k ks).map (Value.int .i64)):=by
 obtain⟨i0,a5,a9,b4,b5⟩:=info_parts info3;have HI:Hid (zaj w ka ks):=hI;have R0:Hid (woF k ks=flt (fun x=>decide (x=k)) ks):=(rfl:woF k ks=_);clear hI;generalize woF k ks=U at *;obtain⟨m,hm⟩:∃ m,ks.length=m:=⟨_,rfl⟩;have HM:Hid (ks.length=m):=hm;rw[hm] at hl |-;clear hm
 go_enter Tryz.func85,Tryz.ntmps85
 go_wp2_with fail
 go_loopg [5,10] m (fun g s5 s10 wr=>∃ (i:Nat) (l:List Int),i<=m/\m-i<=g/\s10=.int .i64 i/\l.length<=i/\Hid (Below w.heap.size w wr)/\w.heap.size<=wr.heap.size/\Hid (wr.ownsRow w.heap.size 3 1 s5 l.length (l.map (Value.int .i64)))/\Hid (l=flt (fun x=>decide (x=k)) (ks.take i)))
 case atStart=>exact⟨0,[],by omega,by omega,rfl,by simp,yj _ _,yi _,World.ownsRow_nil _ _ _ _,(by simp[flt]:([]:List Int)=flt (fun x=>decide (x=k)) (ks.take 0))⟩
 case round =>
  obtain⟨i,l,hi,hg,rfl,a7,HB,a8,I,HE⟩:=hrel;obtain⟨qa,qc,hv,_⟩:=zat I.out;subst hv;obtain⟨O,M⟩:∃ y,l.length=y:=⟨_,rfl⟩;have A:Hid (l.length=O):=M;rw[M] at I a7 |-;clear M;by_cases a4:i<m
  ·obtain⟨pb,po,ep,b8⟩:=(HI.out.below HB.out) i (by rw[HM.out];exact a4);subst ep;have b7:(i:Int)<(m:Int):=by omega
   have e:=zcY (fun x=>decide (x=k)) ks i (by rw[HM.out];exact a4);rw[<- HE.out] at e;have NX:Hid _:=e;clear HE e;generalize ks.getD i 0=y at *;by_cases hy:y=k
   ·subst hy;have E2:Hid (l=flt (fun x=>decide (x=y)) (ks.take (i+1))):=(by rw[NX.out];simp:l=flt (fun x=>decide (x=y)) (ks.take (i+1)));have J:Hid (wr.ownsRow w.heap.size 3 1 (.slice qa O qc) l.length (l.map (Value.int .i64))):=(by rw[A.out];exact I.out:wr.ownsRow w.heap.size 3 1 (.slice qa O qc) l.length (l.map (Value.int .i64)));clear NX I
    go_wp2
    go_roundg (m-(i+1))
    case measure=>omega
    case rel=>exact⟨i+1,l,by omega,by omega,by go_num,by rw[A.out];omega,HB,a8,J,E2⟩
   ·have b9:(y == k)=false:=beq_eq_false_iff_ne.2 hy;have c6:decide (y=k)=false:=decide_eq_false hy;have E2:Hid (l++[y]=flt (fun x=>decide (x=k)) (ks.take (i+1))):=(by rw[NX.out];simp[hy]:l++[y]=flt (fun x=>decide (x=k)) (ks.take (i+1)));have OB:Hid (∀ k,(Value.slice qa O qc).ownBlock=some k->w.heap.size<=k):=fun k hk=>(I.out.lt k hk).1;have b6:O<=1000:=by omega
    clear NX
    go_wp2_with (at_builtin;refine wpList_append_own _ rfl _ _ 29 rfl w.heap.size 3 i0 (.int .i64 0) 1 8 Tryz.underlying29 a5 a9 b4 b5 rfl (by decide) _ _ _ rfl (I.out.alloc _) ⟨wr.heap.size,0,none⟩ 1 1 [.int .i64 y] rfl rfl ?c1 ?c2 ?c3 ?c4 ?c5 ?_)
    case c2=>first|rfl|(intro u hu;simp at hu;subst hu;rfl)|simp
    case c3=>unfold maxLen;omega
    case c4=>omega
    case c5=>first|omega|(simp;omega)
    case c1=>first|(go_simp;done)|(intro j u Z;match j,Z with|0,Z=>(cases Z;go_simp)|(j+1),Z=>simp at Z)
    intro v' w2 F D _;have V:Below w.heap.size wr w2:=((yj _ wr).alloc (by omega) _).grown D (by simp;omega) (fun k hk=>OB.out k hk);have T:Hid (Below w.heap.size w w2):=HB.out.trans V
    have J:Hid (w2.ownsRow w.heap.size 3 1 v' (l++[y]).length ((l++[y]).map (Value.int .i64))):=by
     have h2:=F;rw[show (l++[y]).length=O+1 by simp[A.out],List.map_append];exact h2
    have hs2:=T.out.size;clear F D V I
    go_wp2_with fail
    go_roundg (m-(i+1))
    case measure=>omega
    case rel=>exact⟨i+1,l++[y],by omega,by omega,by go_num,by simp[A.out];omega,T,hs2,J,E2⟩
  ·have a6:i=m:=by omega
   subst a6;have e:=HE.out;rw[List.take_of_length_le (by rw[HM.out];omega),<- R0.out] at e
   have OW:Hid (wr.ownsRow w.heap.size 3 1 (.slice qa O qc) U.length (U.map (Value.int .i64))):=by
    have h2:=I.out;rw[<- A.out,e] at h2;rw[<- A.out,e];exact h2
   clear HE e I
   go_wp2
   go_ret;exact⟨_,rfl,HB.out,OW.out⟩
theorem zqv(a:Option Addr)(c:Nat)(S:List Nd)(p u E:Int)(w:World)(hN:S.length<=9223372036854775807)(O:zeu a c S)(U:zae w a S)(T:zar S [(p,u)]=E)(I:E≠0) :
  Calls Tryz.prog 40 #[.agg #[.slice a S.length c],.agg #[.int .i64 p,.int .i64 u]] w fun e w' => e=.returned (.tuple #[.agg #[.slice none 0 0],.int .i64 E])/\Below w.heap.size w w' := by
 have J:=fun(W:World) (V:Option Addr) (hW:zae W a S) (hH:zam W V [(p,u)])=>zbd a c S V 1 [(p,u)] W (by omega) O hW (by simp) hH;rw[T] at J;have M:Hid _:=J;have Z:Hid (zae w a S):=U;have hz:(E == 0)=false:=by simp[I]
 have a5:decide (E=0)=false:=decide_eq_false I;clear U O J T;generalize S.length=n at *
 go_enter Tryz.func40,Tryz.ntmps40
 go_wp2_with fail
 refine yf (M.out _ _ (Z.out.below ((zal _ _ _ _).alloc (by simp;omega) _)) (zaV _ _ _ _ (by go_simp) (by go_simp))) ?_;rintro e w1 ⟨rfl,A⟩;simp only[yk] at A;obtain⟨l0,l1,l2,l3,z0,z1,a4,F⟩:=zei A;have D:Hid _:=F;clear A F M
 go_wp2_with fail
 refine yq (v:=.tuple #[.agg #[.slice none 0 0],.int .i64 E]) (by simp[results,Tryz.results40,go_sem,l3]) rfl ⟨rfl,?_⟩
 first|exact D.out.setCell (by simp;omega) _|exact(D.out.setCell (by simp;omega) _).drew
theorem zoS(a:Option Addr)(c:Nat)(S:List Nd)(ch:Nat)(u:Int)(w:World)(hN:S.length<=9223372036854775807)(O:zeu a c S)(U:zae w a S)(T:zar S [((ch:Int),u)]=0)(hch:ch<S.length)(hp:(nd S ch).p = -1) :
  Calls Tryz.prog 40 #[.agg #[.slice a S.length c],.agg #[.int .i64 (ch:Int),.int .i64 u]] w fun e w' => e=.returned (.tuple #[.agg #[.slice none 0 0],.int .i64 6])/\Below w.heap.size w w' := by
 have I:=fun(W:World) (V:Option Addr) (hW:zae W a S) (hH:zam W V [((ch:Int),u)])=>zbd a c S V 1 [((ch:Int),u)] W (by omega) O hW (by simp) hH;rw[T] at I;have J:Hid _:=I;have M:Hid (zae w a S):=U;have Z:(ch:Int)<(S.length:Int):=by omega
 clear U O I T;generalize hn:S.length=n at *;have HN:Hid (S.length=n):=hn;clear hn
 go_enter Tryz.func40,Tryz.ntmps40
 go_wp2_with fail
 refine yf (J.out _ _ (M.out.below ((zal _ _ _ _).alloc (by simp;omega) _)) (zaV _ _ _ _ (by go_simp) (by go_simp))) ?_;rintro e w1 ⟨rfl,D⟩;simp only[yk] at D;obtain⟨l0,l1,l2,l3,z0,z1,a4,F⟩:=zei D;have A:Hid _:=F;clear D F J;obtain⟨nb,no,ea,_,_,_,_,c4,_,_,_⟩:=(M.out.below A.out) ch (by rw[HN.out];exact hch);subst ea;rw[hp] at c4
 go_wp2_with fail
 refine yq (v:=.tuple #[.agg #[.slice none 0 0],.int .i64 6]) (by simp[results,Tryz.results40,go_sem,l3]) rfl ⟨rfl,?_⟩
 first|exact A.out.setCell (by simp;omega) _|exact(A.out.setCell (by simp;omega) _).drew
theorem zki{S:List Nd}{w ch:Nat}(hpa:w<S.length)(hch:ch<S.length)(D:w≠ch) :
  (S.set w ⟨(nd S w).u,(nd S w).n,(nd S w).t,(nd S w).m,(nd S w).p,woF ch (nd S w).ks,(nd S w).h,(nd S w).c⟩).set ch ⟨(nd S ch).u,(nd S ch).n,(nd S ch).t,(nd S ch).m,-1,(nd S ch).ks,(nd S ch).h,(nd S ch).c⟩=zbu S w ch:=by
 refine List.ext_getElem (by simp[zaR]) (fun i h1 F=>?_);have A:i<S.length:=by simpa using h1
 have e1:=zcS S w ch i A;rw[zaJ (by rw[zaR];exact A)] at e1;rw[e1];unfold zdJ;by_cases e:i=ch
 ·subst e;rw[List.getElem_set_self,yd rfl]
 ·rw[List.getElem_set_ne (fun h=>e h.symm),ya e];by_cases e2:i=w
  ·subst e2;rw[List.getElem_set_self,yd rfl];rfl
  ·rw[List.getElem_set_ne (fun h=>e2 h.symm),ya e2,zaJ A]
theorem zrS(a:Option Addr)(c:Nat)(S:List Nd)(ch F:Nat)(u:Int)(w:World)(hN:S.length<=24)(hC:zeu a c S)(hS:zae w a S)(V:∀ i,i<S.length->(nd S i).ks.length<=1000)(hE:zar S [((ch:Int),u)]=0)(hch:ch<S.length)(hpa:F<S.length)(b7:F≠ch)(hp:(nd S ch).p=F) :
  Calls Tryz.prog 40 #[.agg #[.slice a S.length c],.agg #[.int .i64 (ch:Int),.int .i64 u]] w fun e w' => ∃ a' c', e=.returned (.tuple #[.agg #[.slice a' S.length c'],.int .i64 0])/\Below w.heap.size w w' /\ zae w' a' (zbu S F ch):=by
 have df:=fun(W:World) (ha:Option Addr) (hW:zae W a S) (hH:zam W ha [((ch:Int),u)])=>zbd a c S ha 1 [((ch:Int),u)] W (by omega) hC hW (by simp) hH;rw[hE] at df;have DF:Hid _:=df;have HS:Hid (zae w a S):=hS;have DO:Hid (∀ W,zae W a S->Calls _ _ _ _ _):=fun W hW=>zeL a c S W (by omega) (fun i hi=>by have:=V i hi;omega) hW;have e9:(ch:Int)<(S.length:Int):=by omega
 have f0:(F:Int)<(S.length:Int):=by omega
 have LS:Hid _:=zki hpa hch b7;have c8:Hid _:=V;clear hS hC df hE V;generalize hn:S.length=n at *;have HN:Hid (S.length=n):=hn;clear hn
 go_enter Tryz.func40,Tryz.ntmps40
 go_wp2_with fail
 refine yf (DF.out _ _ (HS.out.below ((zal _ _ _ _).alloc (by simp;omega) _)) (zaV _ _ _ _ (by go_simp) (by go_simp))) ?_;rintro e w1 ⟨rfl,Z⟩;simp only[yk] at Z;obtain⟨l0,l1,l2,l3,z0,z1,e6,a7⟩:=zei Z;have U:Hid _:=a7;clear Z a7 DF;obtain⟨nb,no,ea,_,_,_,_,c4,_,_,_⟩:=(HS.out.below U.out) ch (by rw[HN.out];exact hch);subst ea;rw[hp] at c4;have g4:((F:Int) == -1)=false:=beq_eq_false_iff_ne.2 (by omega);have d9:=ye _ _ c4
 go_wp2_with fail
 refine yf (DO.out _ (HS.out.below U.out)) ?_;rintro e w2 ⟨v,KK,rfl,a9,T⟩;obtain⟨g,cap,rfl,hg,g3,e8,g2,hO,a8,⟨m0,y0⟩,m1,m2,m3,y1⟩:=zht (by omega) e6 U.out l0 l1 l2 l3 z0 z1 a9 T;obtain⟨I,J⟩:∃ I,w2.setCell ⟨w.heap.size,0,none⟩ (.slice (some ⟨g,0,none⟩) n cap)=I:=⟨_,rfl⟩;have O:Hid (zca (w.heap.size+4) S n KK (.slice (some ⟨g,0,none⟩) n cap) I):=by rw[<- J];exact hO
 have a5:Hid (Below w.heap.size w I):=by rw[<- J];exact a8
 have g5:I.heap.size=w2.heap.size:=by rw[<- J];simp
 have s0:I.cell? ⟨w.heap.size,0,none⟩=some (.slice (some ⟨g,0,none⟩) n cap):=by rw[<- J];exact World.cell?_setCell_same _ _ _ m0
 have s1:I.cell? ⟨w.heap.size+1,0,none⟩=some (.int .i64 (ch:Int)):=by rw[<- J];exact zak (by omega) m1
 have s3:I.cell? ⟨w.heap.size+1+1,0,none⟩=some (.slice none 0 0):=by rw[<- J];exact zak (by omega) m3
 have f3:I.frozen? ⟨w.heap.size+1+1,0,none⟩=false:=by rw[<- J];exact zbh y1
 clear hO a8 T a9 l0 l1 l2 l3 z0 z1 c4 d9 DO
 have r4:I.cell? ⟨g,ch*8+4,none⟩=some (.int .i64 (F:Int)):=by
  have h:=O.out.cellAt (i:=ch) (j:=4) hch (by omega);rw[h];show some (Value.int .i64 (nd S ch).p)=_;rw[hp]
 have r5:I.cell? ⟨g,F*8+5,none⟩=some (KK F):=O.out.cellAt (i:=F) (j:=5) hpa (by omega);obtain⟨ka,kc,b6,b4,_⟩:=zat (O.out.2 F hpa);rw[b6] at r5;have b5:=c8.out F hpa;have c7:Hid (zaj I ka (nd S F).ks):=b4;have d7:g<I.heap.size:=by omega
 have fz:∀ o,I.frozen? ⟨g,o,none⟩=false:=fun o=>O.out.frozenAt o;have DW:Hid (∀ W,zaj W ka (nd S F).ks->Calls _ _ _ _ _):=fun W hW=>zfT ka kc (nd S F).ks (ch:Int) W b5 hW;have e1:¬ w.heap.size=g:=by omega
 have e2:¬ w.heap.size+1=g:=by omega
 have e3:¬ w.heap.size+1+1=g:=by omega
 have f7:¬ g=w.heap.size:=by omega
 have f8:¬ g=w.heap.size+1:=by omega
 have f9:¬ g=w.heap.size+1+1:=by omega
 have q0:w.heap.size<I.heap.size:=by omega
 have q1:w.heap.size+1<I.heap.size:=by omega
 have q2:w.heap.size+1+1<I.heap.size:=by omega
 obtain⟨L,hL⟩:∃ L,(nd S F).ks.length=L:=⟨_,rfl⟩;have f6:Hid ((nd S F).ks.length=L):=hL;rw[hL] at r5 DW b5;clear b4 m1 m2 m3 y1 b6 hL
 go_upto_region 7 with fail
 try rw[J]
 clear J m0 y0
 go_wp2_with fail
 refine wp_region_noPanic ?_;refine wp_region_held_drew (S:=fun c6=>c6.cell? ⟨w.heap.size,0,none⟩=some (.slice (some ⟨g,0,none⟩) n cap)/\c6.cell? ⟨w.heap.size+1,0,none⟩=some (.int .i64 (ch:Int))) (by kernel_rfl) (by(try dsimp only);go_keep) (fun hHeld=>?_);refine wpAnyH_take (i:=0) (v:=?_) rfl (by kernel_rfl) (by kernel_rfl) (by kernel_rfl) (fun _ _ _ h=>h) (Or.inl ⟨by rfl,?_⟩) (by assumption) ?_;rotate_left
 ·intro w A;(try dsimp only at A);first|(go_simp;done)|(go_simp;with_reducible rfl)
 simp[Act.put];refine wpAnyH_take (i:=1) (v:=?_) rfl (by kernel_rfl) (by kernel_rfl) (by kernel_rfl) (fun _ _ _ h=>h) (Or.inl ⟨by rfl,?_⟩) (by assumption) ?_;rotate_left
 ·intro w A;(try dsimp only at A);first|(go_simp;done)|(go_simp;with_reducible rfl)
 simp[Act.put];refine wpAnyH_take (i:=2) (v:=?_) rfl (by kernel_rfl) (by kernel_rfl) (by kernel_rfl) (fun _ _ _ h=>h) (Or.inl ⟨by rfl,?_⟩) (by assumption) ?_;rotate_left
 ·intro w A;(try dsimp only at A);first|(go_simp;done)|(go_simp;with_reducible rfl)
 simp[Act.put];refine wpAnyH_take (i:=3) (v:=?_) rfl (by kernel_rfl) (by kernel_rfl) (by kernel_rfl) (fun _ _ _ h=>h) (Or.inl ⟨by rfl,?_⟩) (by assumption) ?_;rotate_left
 ·intro w A;(try dsimp only at A);first|(go_simp;done)|(go_simp;with_reducible rfl)
 simp[Act.put];refine wpAnyH_take (i:=4) (v:=?_) rfl (by kernel_rfl) (by kernel_rfl) (by kernel_rfl) (fun _ _ _ h=>h) (Or.inl ⟨by rfl,?_⟩) (by assumption) ?_;rotate_left
 ·intro w A;(try dsimp only at A);first|(go_simp;done)|(go_simp;with_reducible rfl)
 simp[Act.put];refine wpAnyH_take (i:=5) (v:=?_) rfl (by kernel_rfl) (by kernel_rfl) (by kernel_rfl) (fun _ _ _ h=>h) (Or.inl ⟨by rfl,?_⟩) (by assumption) ?_;rotate_left
 ·intro w A;(try dsimp only at A);first|(go_simp;done)|(go_simp;with_reducible rfl)
 simp[Act.put];refine wpAnyH_take (i:=6) (v:=?_) rfl (by kernel_rfl) (by kernel_rfl) (by kernel_rfl) (fun _ _ _ h=>h) (Or.inl ⟨by rfl,?_⟩) (by assumption) ?_;rotate_left
 ·intro w A;(try dsimp only at A);first|(go_simp;done)|(go_simp;with_reducible rfl)
 simp[Act.put];refine wpAnyH_take (i:=7) (v:=?_) rfl (by kernel_rfl) (by kernel_rfl) (by kernel_rfl) (fun _ _ _ h=>h) (Or.inl ⟨by rfl,?_⟩) (by assumption) ?_;rotate_left
 ·intro w A;(try dsimp only at A);first|(go_simp;done)|(go_simp;with_reducible rfl)
 simp[Act.put];refine wpAnyH_take (i:=9) (v:=?_) rfl (by kernel_rfl) (by kernel_rfl) (by kernel_rfl) (fun _ _ _ h=>h) (Or.inl ⟨by rfl,?_⟩) (by assumption) ?_;rotate_left
 ·intro w A;(try dsimp only at A);first|(go_simp;done)|(go_simp;with_reducible rfl)
 simp[Act.put];refine wpAnyH_take (i:=10) (v:=?_) rfl (by kernel_rfl) (by kernel_rfl) (by kernel_rfl) (fun _ _ _ h=>h) (Or.inl ⟨by rfl,?_⟩) (by assumption) ?_;rotate_left
 ·intro w A;(try dsimp only at A);first|(go_simp;done)|(go_simp;with_reducible rfl)
 simp[Act.put];refine wpAnyH_ready (rs:=[8]) (by kernel_rfl) (by simp) ?_;refine AllReadyH.cons rfl (fun K hK=>?_) AllReadyH.nil;go_simp;refine hK.out _ _ ?_ (fun hHeld=>?_)
 ·(try dsimp only)
  first|go_keep|exact⟨by assumption,by assumption⟩
 clear hK K
 try simp[Act.put]
 refine wpAnyH_ready (rs:=[11]) (by kernel_rfl) (by simp) ?_;refine AllReadyH.cons rfl (fun K hK=>?_) AllReadyH.nil;go_simp;refine yf (DW.out _ (c7.out.below (by first|exact(yj _ _).drew|exact yj _ _))) ?_;rintro e w5 ⟨v5,rfl,a4,M⟩;have D:Below I.heap.size I w5:=(by first|exact(yj I.heap.size I).drew.trans a4|exact a4);have t0:=zac s0 D;have t1:=zac s1 D;have t3:=zac s3 D;have t4:=zac r4 D;have t5:=zac r5 D;have g0:w5.frozen? ⟨w.heap.size+1+1,0,none⟩=false:=(D.frozen (p:=⟨w.heap.size+1+1,0,none⟩) q2).trans f3;have g1:∀ o,w5.frozen? ⟨g,o,none⟩=false:=fun o=>(D.frozen (p:=⟨g,o,none⟩) d7).trans (fz o);have g6:=D.size;have c9:Hid (zca (w.heap.size+4) S n KK (.slice (some ⟨g,0,none⟩) n cap) w5):=O.out.other (fun b _ hb=>D.block b hb);have d6:Hid (w5.ownsRow (w.heap.size+4) 3 1 v5 (woF ch (nd S F).ks).length ((woF ch (nd S F).ks).map (Value.int .i64))):=zau M (by first|(simp;omega)|omega);have a6:Hid (Below w.heap.size w w5):=a5.out.trans (D.mono a5.out.size);obtain⟨b8,b9,e7,_⟩:=zat M;subst e7;clear a4 D M
 go_wp2_with fail
 refine hK.out _ _ ?_ (fun hHeld=>?_)
 ·(try dsimp only)
  first|exact⟨t0,t1⟩|go_keep
 clear hK K
 try simp[Act.put]
 refine wpAnyH_take (i:=12) (v:=?_) rfl (by kernel_rfl) (by kernel_rfl) (by kernel_rfl) (fun _ _ _ h=>h) (Or.inl ⟨by rfl,?_⟩) (by assumption) ?_;rotate_left
 ·intro w A;(try dsimp only at A);first|(go_simp;done)|(go_simp;with_reducible rfl)
 simp[Act.put];refine wpAnyH_take (i:=13) (v:=?_) rfl (by kernel_rfl) (by kernel_rfl) (by kernel_rfl) (fun _ _ _ h=>h) (Or.inl ⟨by rfl,?_⟩) (by assumption) ?_;rotate_left
 ·intro w A;(try dsimp only at A);first|(go_simp;done)|(go_simp;with_reducible rfl)
 simp[Act.put];refine wpAnyH_ready (rs:=[14]) (by kernel_rfl) (by simp) ?_;refine AllReadyH.cons rfl (fun K hK=>?_) AllReadyH.nil;go_simp;refine hK.out _ _ ?_ (fun hHeld=>?_)
 ·(try dsimp only)
  first|exact⟨zak (by omega) t0,zak (by omega) t1⟩|go_keep
 clear hK K
 try simp[Act.put]
 refine wpAnyH_done (by kernel_rfl) ?_ _;refine NoPanic.normal ?_
 go_wp2_with fail
 have p1:=c9.out.putK (k:=F) hpa HN.out (woF ch (nd S F).ks) (.slice b8 (woF ch (nd S F).ks).length b9) d6.out;have e0:∀ X,nd (S.set F X) ch=nd S ch:=fun X=>by rw[zay S F ch _ (by rw[HN.out];exact hpa),ya (fun h=>b7 h.symm)]
 have p2:=p1.put1 (k:=ch) (j:=4) (u:=.int .i64 (-1)) hch (by rw[List.length_set];exact HN.out) (by omega) ⟨(nd S ch).u,(nd S ch).n,(nd S ch).t,(nd S ch).m,-1,(nd S ch).ks,(nd S ch).h,(nd S ch).c⟩ (fun v j' d8=>by
  rw[e0]
  match j', d8 with
  | 0,_|1,_|2,_|3,_|4,_|5,_|6,_|7,_=>rfl) (by rw[e0])
 rw[LS.out] at p2;have x3:((w5.setCell ⟨g,F*8+5,none⟩ (.slice b8 (woF ch (nd S F).ks).length b9)).setCell ⟨g,ch*8+4,none⟩ (.int .i64 (-1))).cell? ⟨w.heap.size+1+1,0,none⟩=some (.slice none 0 0):=zak e3 (zak e3 t3);refine yq (v:=.tuple #[.agg #[.slice (some ⟨g,0,none⟩) n cap],.int .i64 0]) (by simp[results,Tryz.results40,go_sem,x3]) rfl ⟨some ⟨g,0,none⟩,cap,rfl,?_,?_⟩
 ·first
   | exact((a6.out.setCell (by simp;omega) _).setCell (by simp;omega) _).setCell (by simp;omega) _
   | exact(((a6.out.setCell (by simp;omega) _).setCell (by simp;omega) _).setCell (by simp;omega) _).drew
 ·refine(p2.other (fun b hb _=>?_)).ndsAt (by rw[zaR];exact HN.out)
  first
   | exact yo _ _ _ _ (by show b≠w.heap.size+1+1;omega)
   |(rw[heap_drew];exact yo _ _ _ _ (by show b≠w.heap.size+1+1;omega))
def zcG(S:List Nd)(k:Nat):List Slt:=if (nd S k).p = -1 then [] else zaz S (nd S k).p.toNat
def toL(L:List Slt)(k:Nat):Int:=match L.find? (fun s=>decide ((k:Int) ∈ s.gv)) with|some s=>s.pl|none=>-1
def toF(S:List Nd)(k:Nat):Int:=toL (zcG S k) k
theorem zlB{L:List Slt}{k i:Nat}(w:i<L.length)(h:(k:Int) ∈ (slt L i).gv)(A:∀ j,j<i->(k:Int) ∉ (slt L j).gv):toL L k=(slt L i).pl:=by
 unfold toL
 have e:L.find? (fun s=>decide ((k:Int) ∈ s.gv))=some (slt L i):=by
  rw[List.find?_eq_some_iff_getElem];refine⟨decide_eq_true h,i,w,(zbN w).symm,fun j D=>?_⟩;have:=A j D;rw[zbN (by omega)] at this;simp[this]
 rw[e]
theorem zqO{L:List Slt}{k:Nat}(A:∀ j,j<L.length->(k:Int) ∉ (slt L j).gv):toL L k = -1:=by
 unfold toL
 have e:L.find? (fun s=>decide ((k:Int) ∈ s.gv))=none:=by
  rw[List.find?_eq_none];intro s hs;obtain⟨j,w,rfl⟩:=List.getElem_of_mem hs;have:=A j w;rw[zbN w] at this;simpa using this
 rw[e]
theorem zpi{S:List Nd}(wf:WF S){k i:Nat}(D:k<S.length)(A:i<(zcG S k).length):(slt (zcG S k) i).gv.length<=24:=by
 have w:slt (zcG S k) i ∈ zcG S k:=by rw[zbN A];exact List.getElem_mem A
 generalize slt (zcG S k) i=s at *;unfold zcG at w
 split at w
 ·cases w
 ·rename_i F;obtain⟨J,e,hpa,_⟩:=wf.parent_place D F;rw[e,yg] at w;obtain⟨_,_,_,_,_,_,_,_,_,_,_,I,_⟩:=zbe wf w;rcases I with e2|e2
  ·rw[e2];simp
  ·rw[e2];have h1:=wf.kids_small hpa;unfold zbF flt;exact yx (List.length_filter_le _ _) h1
def zqS(S:List Nd)(t:Nat):Prop:=∀ j r,Up S j t r->(nd S r).h = -1
theorem zmc{S:List Nd}{T p r H i j:Nat}(J:zqS S T)(A:Up S i p T)(D:Up S j p r)(I:H<S.length)(hh:(nd S r).h=H):∃ m,Up S m H T:=by
 by_cases M:i<=j
 ·obtain⟨y,h1,w⟩:=Up.split (i:=i) (j:=j-i) (by rw[show i+(j-i)=j by omega];exact D);have:=Up.det h1 A;subst this;have:=J _ _ w;omega
 ·obtain⟨y,h1,w⟩:=Up.split (i:=j+1) (j:=i-(j+1)) (by rw[show j+1+(i-(j+1))=i by omega];exact A);have F:Up S (j+1) p H:=D.trans (WF.up_one I (by unfold zah;rw[ya (by omega)];exact hh));have:=Up.det h1 F;subst this;exact⟨_,w⟩
theorem ShR.under{S:List Nd}(h:WF S){g:Nat->List Int}(G:zeZ S g){k T i:Nat}(U:k<S.length)(O:zqS S T)(V:Up S i k T):∀ {j z:Nat},ShR (zbn S g) k j z->∃ m,Up S m z T
 | 0,z,e=>by cases e;exact⟨i,V⟩
 | j+1,z,⟨y,hy,hz⟩=>by
  obtain⟨m,w⟩:=ShR.under h G U O V hy;have Z:=(ShR.facts h G U hy).1;obtain⟨k', q,e,a4,hq,_,_,_,F,J⟩:=zer h G Z hz;have:z=k' := by omega
  subst this;have M:Up S 1 z q:=WF.up_one hq F;rcases J with J |⟨_,_,r,j2,hr,D,I⟩ |⟨_,rfl⟩
  ·have q1:Up S 1 q y:=WF.up_one Z (by unfold zah;rw[ya (by omega)];exact J);exact⟨_,M.trans (q1.trans w)⟩
  ·obtain⟨m2,A⟩:=zmc O w I hq D;exact⟨_,M.trans A⟩
  ·exact⟨_,M.trans w⟩
def VL(X:World)(D w A g:Nat):Prop :=
 (X.cell? ⟨D,0,none⟩=some (.slice (some ⟨g,0,none⟩) 6 6)/\(∀ o,X.frozen? ⟨D,o,none⟩=false))/\(X.cell? ⟨w,0,none⟩=some (.int .i64 0)/\X.cell? ⟨w,1,none⟩=some (.int .i64 1)/\X.cell? ⟨w,2,none⟩=some (.int .i64 1)/\X.cell? ⟨w,3,none⟩=some (.int .i64 1)/\X.cell? ⟨w,4,none⟩=some (.int .i64 2)/\X.cell? ⟨w,5,none⟩=some (.int .i64 1))/\(X.cell? ⟨A,0,none⟩=some (.int .i64 3)/\X.cell? ⟨A,1,none⟩=some (.int .i64 1))
theorem VL.below{X Y:World}{I A F g:Nat}(h:VL X I A F g)(w:Below X.heap.size X Y):VL Y I A F g:=by
 obtain⟨⟨a0,a1⟩,⟨b0,b1,b2,b3,O,T⟩,c0,c1⟩:=h;have J:=ye _ _ a0;have D:=ye _ _ b0;have M:=ye _ _ c0;exact⟨⟨(w.cell J).trans a0,fun o=>(w.frozen (p:=⟨I,o,none⟩) J).trans (a1 o)⟩,⟨(w.cell (p:=⟨A,0,none⟩) D).trans b0,(w.cell (p:=⟨A,1,none⟩) D).trans b1,(w.cell (p:=⟨A,2,none⟩) D).trans b2,(w.cell (p:=⟨A,3,none⟩) D).trans b3,(w.cell (p:=⟨A,4,none⟩) D).trans O,(w.cell (p:=⟨A,5,none⟩) D).trans T⟩,(w.cell (p:=⟨F,0,none⟩) M).trans c0,(w.cell (p:=⟨F,1,none⟩) M).trans c1⟩
theorem VL.set{X:World}{w A D g F:Nat}(h:VL X w A D g)(h1:w≠A)(I:w≠D):VL (X.setCell ⟨w,0,none⟩ (.slice (some ⟨F,0,none⟩) 6 6)) w A D F:=by
 obtain⟨⟨a0,a1⟩,⟨b0,b1,b2,b3,J,M⟩,c0,c1⟩:=h;refine⟨⟨World.cell?_setCell_same _ _ _ a0,fun o=>by rw[World.frozen?_setCell];exact a1 o⟩,⟨?_,?_,?_,?_,?_,?_⟩,?_,?_⟩
 all_goals
  rw[World.cell?_setCell_other _ _ _ _ (zdl (by first|exact h1|exact I))];assumption
end Go.Proofs.YtgjfmepbphfjoaaGreat
