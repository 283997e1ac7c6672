/-
  x
-/
import Derived.Test.YtcbcpomacdngmaaGreatM1
namespace Go.Proofs.YtcbcpomacdngmaaGreat
set_option maxRecDepth 100000
set_option maxHeartbeats 4000000
set_option linter.unusedVariables false
open Go.RowKit
theorem Below.drewNs{B:Nat}{a w:World}(h:Below B a w)(q:Nat):Below B a (w.drewN q):=⟨h.os,h.tape,h.output,h.size,h.block⟩
theorem zqF(x:Nd)(ka:Option Addr)(kc:Nat)(w:World)(E:x.ks.length<=9223372036854775807)(D:zal w ka x.ks) :
  yL 127 #[.agg #[.bool x.u,.int .i64 x.n,.int .i64 x.t,.int .i64 x.m,.int .i64 x.p,.slice ka x.ks.length kc,.int .i64 x.h,.bool x.c]] w fun e w' => e=.returned (.bool (zec x))/\Below w.heap.size w w' := by
 obtain⟨u,n,t,m,p,ks,h,c⟩:=x;unfold zec;dsimp only at *;cases u
 ·have hs:=fun(W:World) (g1:zal W ka ks)=>zjB n n t m p ks ka kc h c W rfl E g1;have F:∀ I J q,zal (((w.alloc I).alloc J).drewN q) ka ks:=fun I J q=>D.below (Below.drewNs (((yk _ _).alloc (yj _) _).alloc (by simp) _) q);have M:Hid _:=F;clear F D;generalize T:ks.length=L at *;simp only[Bool.false_eq_true,if_false];generalize decide (t=0/\m=0/\p = -1/\ks=[]/\h = -1/\c=false)=r at *
  go_enter Tryz.func127,Tryz.ntmps127
  go_wp2_with fail
  go_region_with (first|(go_at_call 93;refine(zhU _ _).mono ?_;rintro e w' ⟨rfl,rfl⟩)|(go_at_call 87;refine(hs _ (M.out _ _ _)).mono ?_;rintro e w' ⟨rfl,O⟩))
  all_goals go_wp2
  all_goals go_ret
  all_goals exact⟨rfl,(Below.drewNs (((yk _ _).alloc (yj _) _).alloc (by simp) _) _).trans (O.mono (by simp[World.drewN];omega))⟩
 ·clear D;simp only[if_true];by_cases hn:n=0
  ·subst hn;simp only[if_true]
   go_enter Tryz.func127,Tryz.ntmps127
   go_wp2
   go_ret;exact⟨rfl,(yk _ _).alloc (yj _) _⟩
  ·simp only[ya hn];by_cases hh:h = -1
   ·subst hh;simp only[if_true]
    go_enter Tryz.func127,Tryz.ntmps127
    go_wp2
    go_ret;exact⟨rfl,(yk _ _).alloc (yj _) _⟩
   ·simp only[ya hh]
    go_enter Tryz.func127,Tryz.ntmps127
    go_wp2
    go_ret;exact⟨rfl,(yk _ _).alloc (yj _) _⟩
def zfp(N:Int)(x:Nd):Int:=if zcT x then (if zeg N x then (if zec x then 0 else 3) else 4) else 2
theorem zpx{w w1:World}{u:Bool}{n t m p:Int}{k:Value}{h:Int}{c:Bool}(D:Below (w.heap.size+1) (w.alloc (.cells #[.bool u,.int .i64 n,.int .i64 t,.int .i64 m,.int .i64 p,k,.int .i64 h,.bool c] 57)) w1) :
  w1.cell? ⟨w.heap.size,0,none⟩=some (.bool u)/\w1.cell? ⟨w.heap.size,1,none⟩=some (.int .i64 n)/\w1.cell? ⟨w.heap.size,2,none⟩=some (.int .i64 t)/\w1.cell? ⟨w.heap.size,3,none⟩=some (.int .i64 m)/\w1.cell? ⟨w.heap.size,4,none⟩=some (.int .i64 p)/\w1.cell? ⟨w.heap.size,5,none⟩=some k/\w1.cell? ⟨w.heap.size,6,none⟩=some (.int .i64 h)/\w1.cell? ⟨w.heap.size,7,none⟩=some (.bool c) :=
 ⟨(D.cell (by simp)).trans (by go_simp),(D.cell (by simp)).trans (by go_simp),(D.cell (by simp)).trans (by go_simp),(D.cell (by simp)).trans (by go_simp),(D.cell (by simp)).trans (by go_simp),(D.cell (by simp)).trans (by go_simp),(D.cell (by simp)).trans (by go_simp),(D.cell (by simp)).trans (by go_simp)⟩
theorem zlm(x:Nd)(ka:Option Addr)(kc:Nat)(N:Int)(w:World)(hN:0<=N/\N<=24)(D:x.ks.length<=9223372036854775807)(I:zal w ka x.ks) :
  yL 80 #[.agg #[.bool x.u,.int .i64 x.n,.int .i64 x.t,.int .i64 x.m,.int .i64 x.p,.slice ka x.ks.length kc,.int .i64 x.h,.bool x.c],.int .i64 N] w fun e w' => e=.returned (.int .i64 (zfp N x))/\Below w.heap.size w w' := by
 unfold zfp;have d1:=fun W=>zoh x (.slice ka x.ks.length kc) W;have d2:=fun(W:World) (g:zal W ka x.ks)=>zjh x ka kc N W hN D g;have d3:=fun(W:World) (g:zal W ka x.ks)=>zqF x ka kc W D g;have U:∀ o1 w1,Below (w.heap.size+1) (w.alloc o1) w1->zal w1 ka x.ks:=fun o1 w1 h1=>I.below (((yk _ _).alloc (yj _) _).trans (h1.mono (by omega)));have T:Hid _:=U;clear U I;generalize x.ks.length=L at *;generalize zcT x=b1 at *;generalize zeg N x=b2 at *;generalize zec x=b3 at *;cases b1;rotate_left;cases b2;rotate_left;cases b3
 all_goals
  go_enter Tryz.func80,Tryz.ntmps80
  go_wp2_with (first
   |(go_at_call 125;refine(d1 _).mono ?_;rintro e w1 ⟨rfl,E⟩;simp only[yr] at E;have J:=E;obtain⟨Z,l1,l2,l3,l4,l5,l6,l7⟩:=zpx E)
   |(go_at_call 126;refine(d2 _ (T.out _ _ J)).mono ?_;rintro e w2 ⟨rfl,M⟩;have F:=J.trans (M.mono (by have:=J.size;simp only[yr] at this;omega));clear Z l1 l2 l3 l4 l5 l6 l7;obtain⟨Z,l1,l2,l3,l4,l5,l6,l7⟩:=zpx F)
   |(go_at_call 127;refine(d3 _ (T.out _ _ F)).mono ?_;rintro e w3 ⟨rfl,O⟩;have B3:=F.trans (O.mono (by have:=F.size;simp only[yr] at this;omega))))
 all_goals go_ret
 all_goals first
  | exact⟨rfl,((yk _ _).alloc (yj _) _).trans (B3.mono (by omega))⟩
  | exact⟨rfl,((yk _ _).alloc (yj _) _).trans (F.mono (by omega))⟩
  | exact⟨rfl,((yk _ _).alloc (yj _) _).trans (J.mono (by omega))⟩
def nd(S:List Nd)(i:Nat):Nd:=S.getD i zhj
def zuS(w:World)(b o:Nat)(x:Nd):Prop :=
 w.cell? ⟨b,o,none⟩=some (.bool x.u)/\w.cell? ⟨b,o+1,none⟩=some (.int .i64 x.n)/\w.cell? ⟨b,o+2,none⟩=some (.int .i64 x.t)/\w.cell? ⟨b,o+3,none⟩=some (.int .i64 x.m) /\
 w.cell? ⟨b,o+4,none⟩=some (.int .i64 x.p)/\(∃ ka kc,w.cell? ⟨b,o+5,none⟩=some (.slice ka x.ks.length kc)/\zal w ka x.ks)/\w.cell? ⟨b,o+6,none⟩=some (.int .i64 x.h)/\w.cell? ⟨b,o+7,none⟩=some (.bool x.c)
theorem zuS.below{w w' : World}{b o:Nat}{x:Nd}(h:zuS w b o x)(E:Below w.heap.size w w'):zuS w' b o x:=by
 obtain⟨c0,c1,c2,c3,c4,⟨ka,kc,c5,J⟩,F,I⟩:=h;have D:b<w.heap.size:=yd w ⟨b,o,none⟩ c0;exact⟨(E.cell D).trans c0,(E.cell D).trans c1,(E.cell D).trans c2,(E.cell D).trans c3,(E.cell D).trans c4,⟨ka,kc,(E.cell D).trans c5,J.below E⟩,(E.cell D).trans F,(E.cell D).trans I⟩
def zah(w:World)(a:Option Addr)(S:List Nd):Prop :=
 ∀ i,i<S.length->∃ b o,a=some ⟨b,o,none⟩/\zuS w b (o+i*8) (nd S i)
theorem zah.below{w w' : World}{a:Option Addr}{S:List Nd}(h:zah w a S)(D:Below w.heap.size w w'):zah w' a S:=fun i hi=>by
 obtain⟨b,o,e,hn⟩:=h i hi;exact⟨b,o,e,hn.below D⟩
def Big(S:List Nd):Prop:=∀ i,i<S.length->(nd S i).ks.length<=9223372036854775807
def zyR(S:List Nd)(i:Nat)(x:Int):Prop:=x≠-1/\(nd S x.toNat).u=true/\(nd S x.toNat).p=i
def zyS(S:List Nd)(k:Nat):Prop:=∀ i,i<k->∀ x ∈ (nd S i).ks,zyR S i x
def zhk(S:List Nd)(k j:Nat):Nat:=((S.take k).flatMap Nd.ks).count (j:Int)
def zuU(l:List Int)(q j:Nat):Nat:=(l.take q).count (j:Int)
def zeS(S:List Nd):Prop:=zyS S S.length/\∀ j,j<S.length->zhk S S.length j<=1/\((nd S j).p≠-1->zhk S S.length j≠0)
theorem zbq{S:List Nd}{i:Nat}(h:i<S.length):nd S i=S[i]:=zae S zhj h
theorem zmw(S:List Nd)(j:Nat):zhk S 0 j=0:=by simp[zhk]
theorem zfa(S:List Nd)(k j:Nat)(h:k<S.length):zhk S (k+1) j=zhk S k j+(nd S k).ks.count (j:Int):=by
 unfold zhk;rw[List.take_succ_eq_append_getElem h,List.flatMap_append,List.count_append,zbq h];simp
theorem zsx(l:List Int)(j:Nat):zuU l 0 j=0:=by simp[zuU]
theorem zvj(l:List Int)(j:Nat):zuU l l.length j=l.count (j:Int):=by simp[zuU]
theorem zsw(l:List Int)(q j:Nat)(h:q<l.length):zuU l (q+1) j=zuU l q j+(if l.getD q 0=(j:Int) then 1 else 0):=by
 unfold zuU;rw[List.take_succ_eq_append_getElem h,List.count_append,zae l 0 h];by_cases e:l[q]=(j:Int) <;> simp[e]
theorem zxQ(l:List Int)(q j:Nat):zuU l q j<=q:=by
 unfold zuU;exact yG List.count_le_length (by rw[List.length_take];omega)
theorem zqj(S:List Nd)(k j:Nat)(M:k<=S.length)(E:zyS S k)(O:(nd S j).p=k):zhk S k j=0:=by
 unfold zhk;rw[List.count_eq_zero];intro I;obtain⟨y,J,F⟩:=List.mem_flatMap.1 I;obtain⟨i,hi,rfl⟩:=List.getElem_of_mem J;rw[List.length_take] at hi;have D:=E i (by omega) (j:Int) (by rw[zbq (by omega)];simpa using F);have:=D.2.2;simp only[yi] at this;omega
theorem info3:(Tryz.prog.info? 3).map (fun i=>(i.zero,i.size,i.bytes))=some (some (.int .i64 0),1,8):=by kernel_rfl
theorem zpq(n:Nat)(hn:n<=24)(w:World):(Instr.makeSlice 48 (.int .i64 (n:Int)) (.int .i64 (n:Int))).run Tryz.prog w=.ok (.slice (some ⟨w.heap.size,0,none⟩) n n) (w.alloc (.cells (madeCells #[.int .i64 0] n) 3)) :=
 run_make_row' (P:=Tryz.prog) 48 3 (.int .i64 0) 8 Tryz.underlying48 info3 rfl .i64 .i64 n (by omega) (by omega) w
theorem zoo(a:Option Addr)(c:Nat)(S:List Nd)(w:World)(hN:S.length<=24)(hB:Big S)(hP:∀ i,i<S.length->∀ x ∈ (nd S i).ks,-1<=x/\x<S.length)(hS:zah w a S) :
  yL 81 #[.slice a S.length c] w fun e w' => ∃ r:Bool,e=.returned (.bool r)/\Below w.heap.size w w' /\(r=true↔zeS S):=by
 have HK:Hid (zeS S↔(zyS S S.length/\∀ j,j<S.length->zhk S S.length j<=1/\((nd S j).p≠-1->zhk S S.length j≠0))):=Iff.rfl;generalize zeS S=KO at *;have HS:Hid (zah w a S):=hS;have HB:Hid (Big S):=hB;have HP:Hid (∀ i,i<S.length->∀ x ∈ (nd S i).ks,-1<=x/\x<S.length):=hP;clear hS hB hP;have HL:Hid (S.length=S.length):=rfl;generalize hn:S.length=n at *;have HN:Hid (S.length=n):=hn;clear hn HL;have c8:=zpq n hN
 go_enter Tryz.func81,Tryz.ntmps81
 go_wp2
 go_loopg [15] n (fun g s15 wr=>∃ (k:Nat) (f:Nat->Int),k<=n/\n-k<=g/\s15=.int .i64 k/\Below w.heap.size w wr/\wr.rowIs w.heap.size 3 n (fun j=>.int .i64 (f j))/\Hid (∀ j,j<n->f j=(zhk S k j:Int))/\Hid (zyS S k))
 case atStart =>
  refine⟨0,fun _=>0,by omega,by omega,rfl,(yk _ _).alloc (yj _) _,World.rowIs_made _ _ _ _,(show Hid _ from fun j _=>by rw[zmw];rfl),(show Hid _ from fun i hi=>absurd hi (yw _))⟩
 case round =>
  obtain⟨k,f,hk,hg,rfl,hb,hF,A,U⟩:=hrel;by_cases O:k<n
  ·obtain⟨b,o,rfl,c0,c1,c2,c3,c4,⟨ka,kc,c5,I⟩,c6,c7⟩:=HS.out k (by rw[HN.out];exact O);have a6:b<w.heap.size:=yd w ⟨b,o+k*8,none⟩ c0;rw[<- hb.cell (by exact a6)] at c0 c1 c2 c3 c4 c5 c6 c7;have b7:=HB.out k (by rw[HN.out];exact O);have HF:Hid (wr.rowIs w.heap.size 3 n (fun j=>.int .i64 (f j))):=hF;have HI:Hid (zal w ka (nd S k).ks):=I;have b5:=hF.lt;have P:Hid (∀ x ∈ (nd S k).ks,-1<=x/\x<(n:Int)):=HP.out k O;have FU:Hid (zyS S n->∀ x ∈ (nd S k).ks,zyR S k x):=fun h=>h k O;clear hF I;generalize I:(nd S k).ks=ks at *;have KS:Hid ((nd S k).ks=ks):=I;clear I;generalize hL:ks.length=L at *;have LL:Hid (ks.length=L):=hL;clear hL
   go_wp2
   go_loopg [23] L (fun g s23 w2=>∃ (q:Nat) (f2:Nat->Int),q<=L/\L-q<=g/\s23=.int .i64 q/\Below w.heap.size w w2/\w2.rowIs w.heap.size 3 n (fun j=>.int .i64 (f2 j))/\Hid (∀ j,j<n->f2 j=((zhk S k j+zuU ks q j:Nat):Int))/\Hid (∀ i,i<q->zyR S k (ks.getD i 0)))
   case atStart =>
    refine⟨0,f,by omega,by omega,rfl,hb.alloc hb.size _,HF.out.alloc _,(show Hid _ from fun j hj=>by rw[zsx,A.out j hj];rfl),(show Hid _ from fun i hi=>absurd hi (yw _))⟩
   case round =>
    obtain⟨q,f2,hq,b3,rfl,D,E,A2,U2⟩:=hrel;by_cases F:q<L
    ·obtain⟨kb,ko,rfl,b9⟩:=(HI.out.below D) q (by rw[LL.out];exact F);have T:ks.getD q 0 ∈ ks:=(by rw[zae ks 0 (by rw[LL.out];exact F)];exact List.getElem_mem _);have b1:Hid (ks.getD q 0 ∈ ks):=T;obtain⟨d8,d9⟩:=P.out _ T;clear T;generalize hy:ks.getD q 0=y at *;have HY:Hid (ks.getD q 0=y):=hy;clear hy;have M:Hid (wr.rowIs w.heap.size 3 n (fun j=>.int .i64 (f2 j))):=E;have J:Hid (¬ zyR S k y->(false=true↔KO)):=fun a8=>⟨fun h=>(by cases h),fun h=>absurd (FU.out ((HK.out.1 h).1) y b1.out) a8⟩;by_cases b6:y = -1
     ·subst b6;have Z:Hid _:=J.out (fun h=>h.1 rfl);clear E
      go_wp2
      go_ret;exact⟨false,rfl,D,Z.out⟩
     ·obtain⟨j,rfl⟩:∃ j:Nat,y=(j:Int):=⟨y.toNat,by omega⟩;have hj:j<n:=(by omega);obtain⟨b', o', e', d0,_,_,_,d4,_⟩:=HS.out j (by rw[HN.out];exact hj)
      cases e'
      rw[<- D.cell (by exact a6)] at d0 d4;have a5:=E.cell hj;have b8:=E.frozen;have hv:=A2.out j hj;clear E
      cases hu:(nd S j).u with
      | false =>
       rw[hu] at d0;have Z:Hid _:=J.out (fun h=>by have:=h.2.1;simp[hu] at this);clear hu
       go_wp2
       go_ret;exact⟨false,rfl,D,Z.out⟩
      | true =>
       rw[hu] at d0;by_cases hp:(nd S j).p=(k:Int)
       ·have hz:=zqj S k j (by rw[HN.out];omega) U.out hp;have b4:=zxQ ks q j;have FK:Hid (zyR S k (j:Int)):=⟨by omega,by simpa using hu,by simpa using hp⟩;rw[hz] at hv;have d6:0<=f2 j:=(by omega);have d7:f2 j<9223372036854775807:=(by omega);rw[hp] at d4;clear hu hp hz b4 hv;generalize a9:f2 j=v at *;have FJ:Hid (f2 j=v):=a9;clear a9
        go_wp2
        go_roundg (L-(q+1))
        case measure=>omega
        case rel =>
         refine⟨q+1,fun i=>if i=j then v+1 else f2 i,by omega,by omega,by go_num,D.setCell (yj _) _,(M.out.set j _).congr (fun i _=>?_),(show Hid _ from fun i hi=>?_),(show Hid _ from fun i hi=>?_)⟩
         ·dsimp only;by_cases e:i=j
          ·rw[yb e,yb e]
          ·rw[ya e,ya e]
         ·dsimp only;rw[zsw ks q i (by rw[LL.out];exact F),HY.out];by_cases e:i=j
          ·subst e;have:=A2.out i hi;rw[yb rfl,yb rfl];rw[FJ.out] at this;omega
          ·have:=A2.out i hi;rw[ya e,ya (by omega)];exact this
         ·by_cases e:i=q
          ·subst e;rw[HY.out];exact FK.out
          ·exact U2.out i (by omega)
       ·have Z:Hid _:=J.out (fun h=>hp (by simpa using h.2.2));generalize (nd S j).p=pj at d4 hp;have c9:(pj ==(k:Int))=false:=(by simp[hp]);have d5:(pj !=(k:Int))=true:=(by simp[hp]);clear hu
        go_wp2
        go_ret;exact⟨false,rfl,D,Z.out⟩
    ·have:q=L:=(by omega);subst this;have M:Hid (wr.rowIs w.heap.size 3 n (fun j=>.int .i64 (f2 j))):=E;clear E
     go_wp2
     go_roundg (n-(k+1))
     case measure=>omega
     case rel =>
      refine⟨k+1,f2,by omega,by omega,by go_num,D,M.out,(show Hid _ from fun j hj=>?_),(show Hid _ from fun i hi=>?_)⟩
      ·rw[A2.out j hj,zfa S k j (by rw[HN.out];exact O),KS.out,<- zvj,LL.out]
      ·by_cases e:i=k
       ·subst e;intro x hx;rw[KS.out] at hx;obtain⟨r,hr,rfl⟩:=List.getElem_of_mem hx;have:=U2.out r (by rw[<- LL.out];exact hr)
        rwa [zae ks 0 hr] at this
       ·exact U.out i (by omega)
  ·have:k=n:=(by omega);subst this;have HF:Hid (wr.rowIs w.heap.size 3 k (fun j=>.int .i64 (f j))):=hF;clear hF
   go_wp2
   go_loopg [56] k (fun g s56 w2=>∃ q:Nat,q<=k/\k-q<=g/\s56=.int .i64 q/\Below w.heap.size w w2/\w2.rowIs w.heap.size 3 k (fun j=>.int .i64 (f j))/\Hid (∀ j,j<q->zhk S k j<=1/\((nd S j).p≠-1->zhk S k j≠0)))
   case atStart=>exact⟨0,by omega,by omega,rfl,hb,HF.out,(show Hid _ from fun j hj=>absurd hj (yw _))⟩
   case round =>
    obtain⟨q,hq,b3,rfl,D,E,A2⟩:=hrel;by_cases F:q<k
    ·obtain⟨b,o,rfl,c0,c1,c2,c3,c4,⟨ka,kc,c5,I⟩,c6,c7⟩:=HS.out q (by rw[HN.out];exact F);have a6:b<w.heap.size:=yd w ⟨b,o+q*8,none⟩ c0;rw[<- D.cell (by exact a6)] at c0 c1 c2 c3 c4 c5 c6 c7;have M:Hid (wr.rowIs w.heap.size 3 k (fun j=>.int .i64 (f j))):=E;have a5:=E.cell F;have b5:=E.lt;have hv:=A.out q F;rw[hv] at a5;have J:Hid (¬ (zhk S k q<=1/\((nd S q).p≠-1->zhk S k q≠0))->(false=true↔KO)):=fun a8=>⟨fun h=>(by cases h),fun h=>absurd ((HK.out.1 h).2 q F) a8⟩
     have a7:Hid ((zhk S k q<=1/\((nd S q).p≠-1->zhk S k q≠0))->∀ j,j<q+1->zhk S k j<=1/\((nd S j).p≠-1->zhk S k j≠0)):=fun h j hj=>by
      by_cases e:j=q
      ·rw[e];exact h
      ·exact A2.out j (by omega)
     clear E I hv;have b2:wr.cell? ⟨w.heap.size,q,none⟩=some (.int .i64 (zhk S k q:Int)):=a5;clear a5;generalize zhk S k q=vn at *;generalize b0:(vn:Int)=v at *;have VI:Hid ((vn:Int)=v):=b0;clear b0;generalize (nd S q).p=pq at *;by_cases h1:1<v
     ·have Z:Hid _:=J.out (fun h=>by have:=VI.out;omega)
      go_wp2
      go_ret;exact⟨false,rfl,D.alloc D.size _,Z.out⟩
     ·by_cases h2:pq = -1
      ·subst h2;have Z:=a7.out ⟨by have:=VI.out;omega,fun h=>absurd rfl h⟩;have ZZ:Hid _:=Z;clear Z
       go_wp2
       go_roundg (k-(q+1))
       case measure=>omega
       case rel=>exact⟨q+1,by omega,by omega,by go_num,D.alloc D.size _,M.out.alloc _,ZZ⟩
      ·have h21:(pq == -1)=false:=(by simp[h2]);have h22:(pq != -1)=true:=(by simp[h2]);by_cases h3:v=0
       ·subst h3;have Z:Hid _:=J.out (fun h=>h.2 h2 (by have:=VI.out;omega))
        go_wp2
        go_ret
        first
         | exact⟨false,rfl,D.alloc D.size _,Z.out⟩
         | exact Or.inl ⟨rfl,D.alloc D.size _,fun h=>by cases Z.out.2 h⟩
       ·have ZZ:Hid _:=a7.out ⟨by have:=VI.out;omega,fun _=>by have:=VI.out;omega⟩
        go_wp2
        go_roundg (k-(q+1))
        case measure=>omega
        case rel=>exact⟨q+1,by omega,by omega,by go_num,D.alloc D.size _,M.out.alloc _,ZZ⟩
    ·have:q=k:=(by omega);subst this;clear E
     go_wp2
     go_ret;exact⟨true,rfl,D,fun _=>HK.out.2 ⟨U.out,A2.out⟩,fun _=>rfl⟩
instance (S:List Nd):Decidable (zeS S):=by unfold zeS zyS zyR;infer_instance
theorem ztk(a:Option Addr)(c:Nat)(S:List Nd)(w:World)(F:S.length<=24)(E:Big S)(I:∀ i,i<S.length->∀ x ∈ (nd S i).ks,-1<=x/\x<S.length)(J:zah w a S) :
  yL 81 #[.slice a S.length c] w fun e w' => e=.returned (.bool (decide (zeS S)))/\Below w.heap.size w w' :=
 (zoo a c S w F E I J).mono (by
  rintro e w' ⟨r,rfl,M,D⟩;refine⟨?_,M⟩
  congr 2
  cases r
  ·exact(yE (fun h=>by cases D.2 h)).symm
  ·exact(yF (D.1 rfl)).symm)
def zrJ(S:List Nd)(i:Nat):Prop:=(nd S i).h≠-1->(nd S (nd S i).h.toNat).u=true/\∀ D,D<i->(nd S D).h≠(nd S i).h
def zga(S:List Nd)(k:Nat):Prop:=∀ i,i<k->zrJ S i
instance (S:List Nd) (k:Nat):Decidable (zga S k):=by unfold zga zrJ;infer_instance
theorem zmM(a:Option Addr)(c:Nat)(S:List Nd)(w:World)(hN:S.length<=24)(hP:∀ i,i<S.length->-1<=(nd S i).h/\(nd S i).h<S.length)(hS:zah w a S) :
  yL 82 #[.slice a S.length c] w fun e w' => e=.returned (.bool (decide (zga S S.length)))/\Below w.heap.size w w' := by
 have a8:Hid (zga S S.length->decide (zga S S.length)=true):=fun h=>yF h;have a7:Hid (¬ zga S S.length->decide (zga S S.length)=false):=fun h=>yE h;generalize decide (zga S S.length)=KO at *;have HS:Hid (zah w a S):=hS;have HP:Hid (∀ i,i<S.length->-1<=(nd S i).h/\(nd S i).h<S.length):=hP;clear hS hP;generalize hn:S.length=n at *;have HN:Hid (S.length=n):=hn;clear hn;have b4:=zpq n hN
 go_enter Tryz.func82,Tryz.ntmps82
 go_wp2
 go_loopg [11] n (fun g s11 wr=>∃ (k:Nat) (f:Nat->Int),k<=n/\n-k<=g/\s11=.int .i64 k/\Below w.heap.size w wr/\wr.rowIs w.heap.size 3 n (fun j=>.int .i64 (f j))/\Hid (∀ j,j<n->(f j=0/\∀ i,i<k->(nd S i).h≠j)\/(f j=1/\∃ i,i<k/\(nd S i).h=j))/\Hid (zga S k))
 case atStart =>
  exact⟨0,fun _=>0,by omega,by omega,rfl,(yk _ _).alloc (yj _) _,World.rowIs_made _ _ _ _,(show Hid _ from fun j _=>Or.inl ⟨rfl,fun i hi=>absurd hi (yw _)⟩),(show Hid _ from fun i hi=>absurd hi (yw _))⟩
 case round =>
  obtain⟨k,f,hk,hg,rfl,D,J,A,U⟩:=hrel;by_cases O:k<n
  ·obtain⟨b,o,rfl,c0,c1,c2,c3,c4,⟨ka,kc,c5,a9⟩,c6,c7⟩:=HS.out k (by rw[HN.out];exact O);have M:b<w.heap.size:=yd w ⟨b,o+k*8,none⟩ c0;rw[<- D.cell (by exact M)] at c0 c1 c2 c3 c4 c5 c6 c7;have HF:Hid (wr.rowIs w.heap.size 3 n (fun j=>.int .i64 (f j))):=J;have b7:=J.lt;obtain⟨b2,b3⟩:=HP.out k O
   have I:Hid (zrJ S k->zga S (k+1)):=fun h i hi=>by
    by_cases e:i=k
    ·rw[e];exact h
    ·exact U.out i (by omega)
   have a5:Hid (¬ zrJ S k->KO=false):=fun h=>a7.out (fun F=>h (F k O));clear a9;generalize hh:(nd S k).h=y at *;have E:Hid ((nd S k).h=y):=hh;clear hh;by_cases hy:y = -1
   ·subst hy;clear J
    go_wp2
    go_roundg (n-(k+1))
    case measure=>omega
    case rel =>
     refine⟨k+1,f,by omega,by omega,by go_num,D.alloc D.size _,HF.out.alloc _,(show Hid _ from fun j hj=>?_),I.out (fun h=>absurd E.out h)⟩;rcases A.out j hj with ⟨h0,h1⟩ |⟨h0,i,hi,h1⟩
     ·refine Or.inl ⟨h0,fun i hi=>?_⟩;by_cases e:i=k
      ·rw[e,E.out];omega
      ·exact h1 i (by omega)
     ·exact Or.inr ⟨h0,i,by omega,h1⟩
   ·obtain⟨j,rfl⟩:∃ j:Nat,y=(j:Int):=⟨y.toNat,by omega⟩;have hj:j<n:=(by omega);obtain⟨b', o', e', d0,_⟩:=HS.out j (by rw[HN.out];exact hj)
    cases e'
    rw[<- D.cell (by exact M)] at d0;have b0:=J.cell hj;have b1:=J.frozen;have T:=A.out j hj;have b8:((j:Int) == -1)=false:=(by simp[hy]);generalize a6:f j=v at *;have FJ:Hid (f j=v):=a6;have AV:Hid ((v=0/\∀ i,i<k->(nd S i).h≠j)\/(v=1/\∃ i,i<k/\(nd S i).h=j)):=T;have b5:0<=v:=(by omega);have b6:v<=1:=(by omega);clear a6 T;have d1:∀ v o1,((wr.setCell ⟨w.heap.size,j,none⟩ v).alloc o1).cell? ⟨b,o+j*8,none⟩=some (.bool (nd S j).u):=fun v o1=>((((yk w.heap.size wr).setCell (yj _) v).alloc (by have:=J.lt;simp[World.setCell];omega) o1).cell (by exact M)).trans d0;clear J
    cases F:(nd S j).u with
    | false =>
     rw[F] at d0 d1;have Z:Hid _:=a5.out (fun h=>by have:=(h (by rw[E.out];omega)).1;rw[E.out] at this;simp[F] at this);clear F
     go_wp2
     go_ret;exact⟨by rw[Z.out];rfl,(D.setCell (yj _) _).alloc (by simpa using D.size) _⟩
    | true =>
     rw[F] at d0 d1;by_cases T:v=0
     ·subst T
      have HK:Hid (zrJ S k):=fun _=>⟨by rw[E.out];simpa using F,fun i hi=>by
       rw[E.out];rcases AV.out with ⟨_,h⟩ |⟨h,_⟩
       ·exact h i hi
       ·omega⟩
      clear F
      go_wp2
      go_roundg (n-(k+1))
      case measure=>omega
      case rel =>
       refine⟨k+1,fun i=>if i=j then 1 else f i,by omega,by omega,by go_num,?_,?_,(show Hid _ from fun i hi=>?_),I.out HK.out⟩
       ·exact(D.setCell (yj _) _).alloc (by simpa using D.size) _
       ·refine((HF.out.set j _).alloc _).congr (fun i _=>?_);dsimp only;by_cases e:i=j
        ·rw[yb e,yb e]
        ·rw[ya e,ya e]
       ·dsimp only;by_cases e:i=j
        ·rw[yb e];exact Or.inr ⟨rfl,k,by omega,by rw[E.out,e]⟩
        ·rw[ya e];rcases A.out i hi with ⟨h0,h1⟩ |⟨h0,r,hr,h1⟩
         ·refine Or.inl ⟨h0,fun r hr=>?_⟩;by_cases e2:r=k
          ·rw[e2,E.out];omega
          ·exact h1 r (by omega)
         ·exact Or.inr ⟨h0,r,by omega,h1⟩
     ·have T:v=1:=(by omega);subst T
      have Z:Hid _:=a5.out (fun h=>by
       rcases AV.out with ⟨h0,_⟩ |⟨_,r,hr,h1⟩
       ·omega
       ·exact(h (by rw[E.out];omega)).2 r hr (by rw[E.out];exact h1))
      clear F
      go_wp2
      go_ret;exact⟨by rw[Z.out];rfl,(D.setCell (yj _) _).alloc (by simpa using D.size) _⟩
  ·have:k=n:=(by omega);subst this;clear J
   go_wp2
   go_ret;exact⟨by rw[a8.out U.out];rfl,D⟩
theorem zAx:(Tryz.prog.info? 3).map (fun i=>(i.zero,i.size,i.bytes))=some (some (.int .i64 0),1,8):=by kernel_rfl
theorem zmY(n:Nat)(hn:n<=1000000)(w:World):(Instr.makeSlice 48 (.int .i64 (n:Int)) (.int .i64 (n:Int))).run Tryz.prog w=.ok (.slice (some ⟨w.heap.size,0,none⟩) n n) (w.alloc (.cells (madeCells #[.int .i64 0] n) 3)) :=
 run_make_row' (P:=Tryz.prog) 48 3 (.int .i64 0) 8 Tryz.underlying48 zAx rfl .i64 .i64 n (by omega) (by omega) w
theorem zgX{w:World}{g t:Nat}{ks:List Int}(h:w.rowIs g t ks.length (fun j=>.int .i64 (ks.getD j 0))):zal w (some ⟨g,0,none⟩) ks:=fun i hi=>⟨g,0,rfl,by rw[yz];exact h.cell hi⟩
theorem zfc(ka:Option Addr)(kc:Nat)(ks:List Int)(w:World)(hk:ks.length<=1000000)(J:zal w ka ks) :
  yL 85 #[.slice ka ks.length kc] w fun e w' => e=.returned (.slice (some ⟨w.heap.size,0,none⟩) ks.length ks.length)/\Below w.heap.size w w' /\ w'.rowIs w.heap.size 3 ks.length (fun j=>.int .i64 (ks.getD j 0)):=by
 have a5:=zmY ks.length hk;have Z:(Tryz.prog.info? 3).map (·.size)=some 1:=by kernel_rfl
 have E:Hid (∀ D,zal (w.alloc D) ka ks):=fun D=>J.below (zaa _ _)
 have HG:Hid ((w.alloc (.cells (madeCells #[.int .i64 0] ks.length) 3)).heap[w.heap.size]?=some (.cells (madeCells #[.int .i64 0] ks.length).toList.toArray 3 (0,0))):=by
  have:=yK w (.cells (madeCells #[.int .i64 0] ks.length) 3);show _=_;simpa using this
 have HP:Hid (∀ D,0<(ks.map (Value.int .i64)).length->some (⟨w.heap.size,0,none⟩:Addr)=some ⟨w.heap.size,0,none⟩/\∃ ad,ka=some ad/\∀ j v,(ks.map (Value.int .i64))[j]?=some v->(w.alloc D).cell? (ad.add j)=some v):=fun D h0=>by
  refine⟨rfl,?_⟩;obtain⟨b,o,rfl,_⟩:=E.out D 0 (by simpa using h0);refine⟨_,rfl,fun j v hj=>?_⟩;obtain⟨hl,M⟩:=List.getElem?_eq_some_iff.1 hj;obtain⟨b', o', e', hc⟩:=E.out D j (by simpa using hl)
  cases e'
  rw[List.getElem_map] at M;rw[zae ks 0 (by simpa using hl),M] at hc;rw[Addr.add_lit];exact hc
 have F:Hid (splice (madeCells #[.int .i64 0] ks.length).toList 0 (ks.map (Value.int .i64))=ks.map (Value.int .i64)):=by
  show splice _ _ _=_;simp[splice,size_madeCells]
 clear J
 go_enter Tryz.func85,Tryz.ntmps85
 go_wp2_with (refine wpList_copy_splice rfl (.tmp 7) (.tmp 8) 48 48 rfl 3 Tryz.underlying48 Z (some ⟨w.heap.size,0,none⟩) ka ks.length ks.length ks.length kc rfl rfl w.heap.size 0 (madeCells #[.int .i64 0] ks.length).toList 3 HG.out (ks.map (Value.int .i64)) (by simp) (HP.out _) (by simp[size_madeCells]) (by intro v M;simp at M;obtain⟨y,_,rfl⟩:=M;rfl) w.heap.size _ (yk _ _) (yj _) ?_)
 intro w3 O I
 have U:Hid (w3.rowIs w.heap.size 3 ks.length (fun j=>.int .i64 (ks.getD j 0))):=by
  refine⟨_,O.out,?_,fun i hi=>?_⟩
  ·rw[F.out];simp
  ·rw[F.out];simp[hi]
 have T:Hid (Below w.heap.size w w3):=(zaa _ _).trans I;clear I O
 go_wp2
 go_ret;exact⟨rfl,T.out,U.out⟩
end Go.Proofs.YtcbcpomacdngmaaGreat
