/-
  x
-/
import Derived.Test.YtcbcpomacdngmaaGreatQ15
namespace Go.Proofs.YtcbcpomacdngmaaGreat
set_option maxRecDepth 100000
set_option maxHeartbeats 4000000
set_option linter.unusedVariables false
open Go.RowKit
theorem WF.used_host{S:List Nd}(h:WF S){r:Nat}(E:r<S.length)(hh:(nd S r).h≠-1):(nd S r).u=true:=by
 have D:=(zbg (h.node r E)).2.2;unfold zdZ at D
 split at D
 ·rename_i F;exact F
 ·have:=of_decide_eq_true D;omega
theorem zrW{S:List Nd}{H:Nat}{P:List Int}{i:Nat}(hi:i<P.length){y:Nat}(D:P.getD i 0=y):zbr S H (P.take (i+1))=zdd S H (zbr S H (P.take i)) (y:Int):=by
 rw[List.take_succ_eq_append_getElem hi,zeQ];rw[zae P 0 hi] at D;rw[D]
theorem zuP{S:List Nd}{H:Nat}{P:List Int}(i:Nat)(F:P.length<=24):(zbr S H (P.take i)).length<=24:=by
 have h1:=znA S H (P.take i);have D:=List.length_take_le i P;have E:=List.length_take_le' i P;omega
theorem zrU(a:Option Addr)(c:Nat)(S:List Nd)(H r:Nat)(w:World)(wf:WF S)(hB:Big S)(hH:H<S.length)(hr:r<S.length)(er:zbW S H=r)(hh:(nd S r).h=H)(hS:zah w a S) :
  Calls Tryz.prog 214 #[.agg #[.slice a S.length c],.int .i64 (H:Int)] w fun e w' => ∃ v K,e=.returned v/\Below w.heap.size w w' /\ ziy w.heap.size (zbN S H) K v w' := by
 obtain⟨i0,e4,e7,e8,e9⟩:=info_parts zyB;have hN:=wf.small;have hu:=wf.used_host hr (by omega)
 have g8:Hid (zbN S H=zbr S H (zaW S S.length r)):=by
  show _=_;unfold zbN;rw[er,ya (by omega),yi]
 have d:=fun(W:World) (hW:zah W a S)=>zdk a c S (H:Int) W (by omega) hW;rw[er] at d;have D:Hid _:=d;have DO:Hid (∀ W,zah W a S->Calls _ _ _ _ _):=fun W hW=>zlV a c S r S.length (nd S r).n W (by omega) hB hW (zuU hr hu rfl wf) hr (wf.deep_all hr) (by have:=zfT wf hr;omega);have KM:Hid (∀ (mk:Int) W,zah W a S->Calls _ _ _ _ _):=fun mk W hW=>zrm a c S H mk W hH (by have:=wf.kids_small hH;omega) (fun y hy=>by obtain⟨k,e,F,_⟩:=wf.kid hH hy;exact⟨k,e,F⟩) hW;have HS:Hid (zah w a S):=hS
 have TT:Hid (∀ y,y<S.length->0<=(nd S y).t/\(nd S y).t<=99):=fun y hy=>by
  have h1:=(zbg (wf.node y hy)).1;unfold zcS at h1;simp at h1;omega
 have PL:Hid (∀ y ∈ zaW S S.length r,∃ x:Nat,y=x/\x<S.length):=fun y hy=>by
  obtain⟨q,e,hq,_⟩:=zcs wf hr (wf.deep_all hr) y hy;exact⟨q,e,hq⟩
 have d9:(zaW S S.length r).length<=24:=by have:=zfT wf hr;omega
 clear d hS hu er hB wf;generalize zaW S S.length r=P at *;obtain⟨m,hm⟩:∃ m,P.length=m:=⟨_,rfl⟩;have HM:Hid (P.length=m):=hm;rw[hm] at DO d9;obtain⟨n,hn⟩:∃ n,S.length=n:=⟨_,rfl⟩;have HN:Hid (S.length=n):=hn;rw[hn] at hN hH hr D DO KM TT PL |-;have i5:(H:Int)<(n:Int):=by omega
 have i7:(r:Int)<(n:Int):=by omega
 have i8:((r:Int) == -1)=false:=by simp
 have i9:decide ((r:Int) = -1)=false:=by simp
 clear hn hm
 go_enter Tryz.func214,Tryz.ntmps214
 go_wp2_with fail
 refine ye (D.out _ (HS.out.below ((yk _ _).alloc (yj _) _))) ?_;rintro e w1 ⟨rfl,e0⟩;have J:=e0;simp only[yr] at J;have i1:=J.size;simp only[yr] at i1;have l0:w1.cell? ⟨w.heap.size,0,none⟩=some (.slice a n c):=(J.cell (by simp)).trans (by go_simp);have b0:Hid (Below w.heap.size w w1):=((yk _ _).alloc (yj _) _).trans (J.mono (by omega));obtain⟨nb,no,ea,_,c1,_⟩:=(HS.out.below b0.out) r (by rw[HN.out];exact hr);subst ea;have q0:=yd _ _ l0;have q1:=yd _ _ c1;clear e0 J D;generalize (nd S r).n=U at *
 go_wp2_with fail
 go_region_held3 (fun g0=>g0.cell? ⟨w.heap.size,0,none⟩=some (.slice (some ⟨nb,no,none⟩) n c)/\g0.cell? ⟨nb,no+r*8+1,none⟩=some (.int .i64 U)) (go_keep) (first|(go_at_call 199;refine(ye (DO.out _ ?nd) ?_);(case nd=>exact HS.out.below b0.out.drew);rintro e E ⟨sa,cap,rfl,a6,hI,h4,h7⟩;have d6:Hid (Below w.heap.size w E):=b0.out.drew.trans (a6.mono b0.out.size);have l2:E.cell? ⟨w.heap.size,0,none⟩=some (.slice (some ⟨nb,no,none⟩) n c):=(a6.cell (by exact q0)).trans l0;have d1:E.cell? ⟨nb,no+r*8+1,none⟩=some (.int .i64 U):=(a6.cell (by exact q1)).trans c1;have s2:w.heap.size<E.heap.size:=yx q0 a6.size;have s3:nb<E.heap.size:=yx q1 a6.size;have HI:Hid (zaj E sa P):=hI;clear a6 hI h4 h7))
 go_wp2_with fail
 go_loopg [8,33] m (fun g s8 s33 wr=>∃ (i:Nat) (K:Nat->Value),i<=m/\m-i<=g/\s33=.int .i64 i/\Hid (Below E.heap.size E wr)/\wr.cell? ⟨w.heap.size,0,none⟩=some (.slice (some ⟨nb,no,none⟩) n c)/\E.heap.size<=wr.heap.size/\Hid (ziy E.heap.size (zbr S H (P.take i)) K s8 wr))
 case atStart=>exact⟨0,fun _=>.slice none 0 0,by omega,by omega,rfl,yk _ _,l2,yj _,(show ziy E.heap.size (zbr S H []) _ _ E from ⟨World.ownsRow_nil _ _ _ _,fun i hi=>by cases hi⟩)⟩
 case round =>
  obtain⟨i,K,hi,hg,rfl,HB,cs,b5,HO⟩:=hrel;clear l2;have HF:Hid ((zbr S H (P.take i)).length<=24):=zuP i (by rw[HM.out];exact d9);obtain⟨qa,qc,hv,d5⟩:=HO.out.slts;subst hv;have b2:Hid (Below w.heap.size w wr):=d6.out.trans (HB.out.mono d6.out.size);by_cases c9:i<m
  ·obtain⟨y,hy,e6⟩:=PL.out (P.getD i 0) (by rw[zae P 0 (by rw[HM.out];exact c9)];exact List.getElem_mem _);obtain⟨pb,po,ep,h9⟩:=(HI.out.below HB.out) i (by rw[HM.out];exact c9);subst ep;rw[hy] at h9;obtain⟨j1,j2,ea,_,_,c2,_⟩:=(HS.out.below b2.out) y (by rw[HN.out];exact e6);cases ea;have j0:(y:Int)<(n:Int):=by omega
   have i6:(i:Int)<(m:Int):=by omega
   have NX:Hid (zbr S H (P.take (i+1))=zdd S H (zbr S H (P.take i)) (y:Int)):=zrW (by rw[HM.out];exact c9) hy;have ht:=TT.out y e6;have HT:Hid (zuh S (y:Int)=(nd S y).t-90):=by show _=_;unfold zuh;rw[yi]
   clear hy;generalize (nd S y).t=T at *;obtain⟨Q,hQ⟩:∃ Q,T-90=Q:=⟨_,rfl⟩;have hw:IntKind.i64.wrap (T-90)=Q:=by rw[hQ];have:=hQ;unfold IntKind.wrap;simp[IntKind.bits,IntKind.signed];omega
   have g7:Hid (zgc wr qa (zbr S H (P.take i))):=d5;clear d5;generalize zbr S H (P.take i)=L at *;have hF:=HF.out;have hc:=fun(W:World) (hW:zgc W qa L) (hq:W.cell? ⟨wr.heap.size,0,none⟩=some (.int .i64 Q))=>zqT qa qc L wr.heap.size Q W (by omega) hW hq;have a8:=fun(wp w3:World) (v1 v2:Value) (s:Slt) (o3:Obj)=>ziy.step (wp:=wp) (w3:=w3) (v1:=v1) (v2:=v2) (s:=s) (o3:=o3) HO.out b5;obtain⟨ln,c8⟩:∃ z,L.length=z:=⟨_,rfl⟩;have g5:Hid (L.length=ln):=c8;rw[c8] at HO HF hc a8 hF |-;have HC:Hid _:=hc;have d8:Hid _:=a8;clear c8 hc a8;by_cases i4:Q<0
   ·have EQ:Hid (zbr S H (P.take (i+1))=L):=by
     show _=_;rw[NX.out];unfold zdd;rw[yb (by rw[HT.out];omega)]
    go_wp2_with fail
    go_roundg (m-(i+1))
    case measure=>omega
    case rel=>exact⟨i+1,K,by omega,by omega,by go_num,HB.out.trans ((zaa _ _).mono b5),zab cs (zaa _ _),by simp;omega,(show ziy _ (zbr S H (P.take (i+1))) K (.slice qa ln qc) _ by rw[EQ.out];exact HO.out.below (zaa _ _))⟩
   ·have EQ:Hid (zbr S H (P.take (i+1))=L++[⟨(y:Int),Q,if L.any (fun s=>decide (s.num=Q)) then [] else zbV S H Q⟩]):=by
     show _=_;rw[NX.out];unfold zdd;rw[HT.out,hQ,ya (by omega)]
    clear NX HT
    have OM:Hid (∀ (W:World) (o3:Obj),(∀ k,k<wr.heap.size->W.heap[k]?=wr.heap[k]?)->wr.heap.size<=W.heap.size->(W.alloc o3).ownsRow E.heap.size 254 3 (.slice qa ln qc) ln (ziu L K)):=fun W o3 h1 h2=>by
     have h3:=HO.out.1;rw[g5.out] at h3;exact zau h3 (fun k F=>(Below.heap_alloc _ _ _ (by have:=(h3.lt k F).2;omega)).trans (h1 k (h3.lt k F).2))
    have OB:Hid (∀ k,(Value.slice qa ln qc).ownBlock=some k->E.heap.size<=k):=fun k F=>(HO.out.1.lt k F).1
    go_wp2_with fail
    refine ye (HC.out _ (g7.out.below (zam _ _ _)) (zay wr _ _ 0 _ rfl)) ?_;rintro e w3 ⟨rfl,I⟩;have n0:=zab (zay wr #[.int .i64 Q] 3 0 (.cells #[.int .i64 (y:Int),.int .i64 Q,.slice none 0 0] 254) rfl) I;have n1:=zab (zaz wr #[.int .i64 (y:Int),.int .i64 Q,.slice none 0 0] 254 0 (.cells #[.int .i64 Q] 3) rfl) I;have n2:=zab (zaz wr #[.int .i64 (y:Int),.int .i64 Q,.slice none 0 0] 254 1 (.cells #[.int .i64 Q] 3) rfl) I;have n3:=zab (zaz wr #[.int .i64 (y:Int),.int .i64 Q,.slice none 0 0] 254 2 (.cells #[.int .i64 Q] 3) rfl) I;have nf:w3.frozen? ⟨wr.heap.size+1,2,none⟩=false:=(I.frozen (p:=⟨wr.heap.size+1,2,none⟩) (by simp)).trans (by go_simp);have i2:=I.size;simp only[yr] at i2;have a5:Hid (Below wr.heap.size wr w3):=(zam wr _ _).trans (I.mono (by simp;omega));have b3:=zab cs a5.out;have g4:Hid (Below E.heap.size E w3):=HB.out.trans (a5.out.mono b5);have z1:wr.heap.size<w3.heap.size:=by omega
    have z2:wr.heap.size+1<w3.heap.size:=by omega
    have z3:w.heap.size<w3.heap.size:=by omega
    clear I cs HC;generalize L.any (fun s=>decide (s.num=Q))=A at *
    cases A with
    | true =>
     go_wp2_with (at_builtin;refine wpList_append_own _ rfl _ _ 251 rfl E.heap.size 254 i0 _ 3 40 Tryz.underlying251 e4 e7 e8 e9 rfl (by decide) (.slice qa ln qc) ln (ziu L K) rfl ?how ⟨w3.heap.size,0,none⟩ 1 1 (zgG ⟨(y:Int),Q,[]⟩ (.slice none 0 0)) rfl rfl ?c1 ?c2 ?c3 ?c4 ?c5 ?_)
     case how=>exact OM.out w3 _ (fun k F=>a5.out.block k F) (by omega)
     case c1=>exact zua (by go_simp) (by go_simp) (by go_simp)
     case c2=>exact zxD
     case c3=>unfold maxLen;omega
     case c4=>omega
     case c5=>first|omega|(simp;omega)
     intro v2 w4 b6 O _
     have a7:Hid (ziy E.heap.size (zbr S H (P.take (i+1))) (fun j=>if j=ln then .slice none 0 0 else K j) v2 w4):=by
      rw[EQ.out];exact d8.out w3 w4 (.slice none 0 0) v2 ⟨(y:Int),Q,[]⟩ _ (by omega) (fun k F=>a5.out.block k F) (World.ownsRow_nil _ _ _ _) O b6
     have c6:Below E.heap.size w3 w4:=((yk _ w3).alloc (by omega) _).grown O (by simp;omega) (fun k F=>OB.out k F);have b1:Hid (Below E.heap.size E w4):=g4.out.trans c6;have b4:=(c6.cell (p:=⟨w.heap.size,0,none⟩) (by show w.heap.size < _;omega)).trans b3;have e5:=b1.out.size;clear b6 O c6 b3 n0 n1 n2 n3 nf
     go_wp2_with fail
     go_roundg (m-(i+1))
     case measure=>omega
     case rel=>exact⟨i+1,_,by omega,by omega,by go_num,b1,b4,e5,a7⟩
    | false =>
     go_wp2_with fail
     refine ye (KM.out Q _ (HS.out.below (b2.out.trans (a5.out.mono b2.out.size)))) ?_;rintro e w4 ⟨v1,rfl,I,a9⟩;obtain⟨ga,gc,hv,_⟩:=zeg a9;subst hv;have e1:=zab n1 I;have e2:=zab n2 I;have e3:=zab n3 I;have ef:=(I.frozen (p:=⟨wr.heap.size+1,2,none⟩) (by exact z2)).trans nf;have b4:=zab b3 I;have e5:=I.size;have b9:Hid _:=a9;have b8:Hid (Below wr.heap.size wr w4):=a5.out.trans (I.mono (by omega));have b1:Hid (Below E.heap.size E w4):=HB.out.trans (b8.out.mono b5);have z4:wr.heap.size+1<w4.heap.size:=by omega
     have z5:w.heap.size<w4.heap.size:=by omega
     clear I a9 n0 n1 n2 n3 nf b3;obtain⟨M,hM⟩:∃ M,zbV S H Q=M:=⟨_,rfl⟩;rw[hM] at b9 EQ |-;obtain⟨mn,d4⟩:∃ z,M.length=z:=⟨_,rfl⟩;have g6:Hid (M.length=mn):=d4;rw[d4] at b9 |-;clear hM d4
     go_wp2_with (at_builtin;refine wpList_append_own _ rfl _ _ 251 rfl E.heap.size 254 i0 _ 3 40 Tryz.underlying251 e4 e7 e8 e9 rfl (by decide) (.slice qa ln qc) ln (ziu L K) rfl ?how ⟨w4.heap.size,0,none⟩ 1 1 (zgG ⟨(y:Int),Q,M⟩ (.slice ga mn gc)) rfl rfl ?c1 ?c2 ?c3 ?c4 ?c5 ?_)
     case how=>exact OM.out _ _ (fun k F=>(ys _ _ _ _ (by show k≠wr.heap.size+1;omega)).trans (b8.out.block k F)) (by simp[World.setCell];omega)
     case c1=>exact zua (by go_simp) (by go_simp) (by go_simp)
     case c2=>exact zxD
     case c3=>unfold maxLen;omega
     case c4=>omega
     case c5=>first|omega|(simp[World.setCell];omega)
     intro v2 w5 b7 Z _
     have a7:Hid (ziy E.heap.size (zbr S H (P.take (i+1))) (fun j=>if j=ln then .slice ga mn gc else K j) v2 w5):=by
      rw[EQ.out];refine d8.out _ w5 (.slice ga mn gc) v2 ⟨(y:Int),Q,M⟩ _ (by simp[World.setCell];omega) (fun k F=>(ys _ _ _ _ (by show k≠wr.heap.size+1;omega)).trans (b8.out.block k F)) ?_ Z b7;have h6:w4.ownsRow w3.heap.size 3 1 (.slice ga mn gc) mn (M.map (Value.int .i64)):=b9.out;show World.ownsRow _ _ _ _ _ M.length _;rw[g6.out];exact zau (zaP h6 (by omega)) (fun k F=>ys _ _ _ _ (by have:=(h6.lt k F).1;show k≠wr.heap.size+1;omega))
     have c7:Below E.heap.size w4 w5:=(((yk _ w4).setCell (by show E.heap.size<=wr.heap.size+1;omega) _).alloc (by simp[World.setCell];omega) _).grown Z (by simp[World.setCell];omega) (fun k F=>OB.out k F);have d7:Hid (Below E.heap.size E w5):=b1.out.trans c7;have g9:=(c7.cell (p:=⟨w.heap.size,0,none⟩) (by show w.heap.size < _;omega)).trans b4;have i3:=d7.out.size;clear b7 Z c7 b4 e1 e2 e3 ef
     go_wp2_with fail
     go_roundg (m-(i+1))
     case measure=>omega
     case rel=>exact⟨i+1,_,by omega,by omega,by go_num,d7,g9,i3,a7⟩
  ·have h8:i=m:=by omega
   subst h8
   have a7:Hid (ziy w.heap.size (zbN S H) K (.slice qa (zbr S H (P.take i)).length qc) wr):=by
    have h:=HO.out.base (B' := w.heap.size) (by omega);rw[g8.out];have e:P.take i=P:=List.take_of_length_le (by rw[HM.out];omega);rw[e] at h |-;exact h
   clear HO d5 HF;generalize (zbr S H (P.take i)).length=ln at *
   go_wp2
   go_ret;exact⟨_,K,rfl,b2.out,a7.out⟩
def zzf(w:World)(b o:Nat)(x:Cl):Prop :=
 w.cell? ⟨b,o,none⟩=some (.int .i64 x.n)/\∃ ka kc,w.cell? ⟨b,o+1,none⟩=some (.slice ka x.ks.length kc)/\zaj w ka x.ks
theorem zzf.below{w w' : World}{b o:Nat}{x:Cl}(h:zzf w b o x)(D:Below w.heap.size w w'):zzf w' b o x:=by
 obtain⟨c0,ka,kc,c1,E⟩:=h;exact⟨zab c0 D,ka,kc,zab c1 D,E.below D⟩
def zaG(w:World)(a:Option Addr)(G:List Cl):Prop :=
 ∀ i,i<G.length->∃ b o,a=some ⟨b,o,none⟩/\zzf w b (o+i*2) (cl G i)
theorem zaG.below{w w' : World}{a:Option Addr}{G:List Cl}(h:zaG w a G)(D:Below w.heap.size w w'):zaG w' a G:=fun i hi=>by
 obtain⟨b,o,e,hn⟩:=h i hi;exact⟨b,o,e,hn.below D⟩
def zkz(G:List Cl):Prop:=∀ i,i<G.length->(cl G i).ks.length<=9223372036854775807
def zav(G:List Cl):Int:=if 24<G.length then 1 else cellsE G.length G
theorem zrp(x:Int)(m b:Nat)(w:World)(E:m<=24)(hc:w.cell? ⟨b,0,none⟩=some (.int .i64 (m:Int))) :
  Calls Tryz.prog 131 #[.int .i64 x,.pointer (some ⟨b,0,none⟩)] w fun e w' => e=.returned (.bool (!decide (0<=x/\x<=(m:Int)-1)))/\w' = w:=by
 have D:=zaQ x 0 ((m:Int)-1);generalize decide (0<=x/\x<=(m:Int)-1)=r at D
 go_enter Tryz.func131,Tryz.ntmps131
 go_wp2_with (go_at_call 66;refine(D _).mono ?_;rintro e w' ⟨rfl,rfl⟩)
 go_ret;exact⟨rfl,rfl⟩
theorem zlw(x:Cl)(ka:Option Addr)(kc m:Nat)(w:World)(hm:m<=24)(E:x.ks.length<=9223372036854775807)(D:zaj w ka x.ks) :
  Calls Tryz.prog 97 #[.agg #[.int .i64 x.n,.slice ka x.ks.length kc],.int .i64 (m:Int)] w fun e w' => e=.returned (.int .i64 (zfa m x))/\Below w.heap.size w w' := by
 unfold zfa;by_cases h1:x.n < -1000000\/1000000<x.n
 ·rw[yb h1];have I:=fun W=>zhq x.n (-1000000) 1000000 W h1;clear D h1;generalize x.ks.length=l at *;generalize x.n=xn at *
  go_enter Tryz.func97,Tryz.ntmps97
  go_wp2_with (go_at_call 66;refine(I _).mono ?_;rintro e w' ⟨rfl,rfl⟩)
  go_ret;exact⟨rfl,zam _ _ _⟩
 ·rw[ya h1];have I:=fun W=>zes x.n (-1000000) 1000000 W (by omega) (by omega);by_cases J:8<x.ks.length
  ·rw[yb J];clear D h1;generalize x.ks.length=l at *;generalize x.n=xn at *;have h3:(8:Int)<(l:Int):=by omega
   go_enter Tryz.func97,Tryz.ntmps97
   go_wp2_with (go_at_call 66;refine(I _).mono ?_;rintro e w' ⟨rfl,rfl⟩)
   go_ret;exact⟨rfl,zam _ _ _⟩
  ·rw[ya J]
   have U:∀ O:World,O.cell? ⟨w.heap.size+1,0,none⟩=some (.int .i64 (m:Int))->zsi 131 #[.pointer (some ⟨w.heap.size+1,0,none⟩)] (fun k=>!decide (0<=k/\k<=(m:Int)-1)) O:=fun O h1 y w2 M =>
    (zrp y m (w.heap.size+1) w2 hm (zab h1 M)).mono (fun e w3 h=>⟨h.1,by rw[h.2];exact yk _ _⟩)
   have d3:=fun(W:World) (hk:zaj W ka x.ks) (hc:W.cell? ⟨w.heap.size+1,0,none⟩=some (.int .i64 (m:Int)))=>zeY 131 #[.pointer (some ⟨w.heap.size+1,0,none⟩)] (fun k=>!decide (0<=k/\k<=(m:Int)-1)) ka kc x.ks W E hk (enters_of Tryz.func131 (by kernel_rfl) rfl) (U W hc);have K2:Hid (∀ F Z,zaj ((w.alloc F).alloc Z) ka x.ks):=fun F Z=>D.below (zam _ _ _);have T:Hid _:=d3;have C2:Hid (∀ F,((w.alloc F).alloc (.cells #[.int .i64 (m:Int)] 3)).cell? ⟨w.heap.size+1,0,none⟩=some (.int .i64 (m:Int))):=fun F=>zaz w _ _ 0 _ rfl;clear D U d3 h1;generalize (x.ks.any fun k=>!decide (0<=k/\k<=(m:Int)-1))=b3 at *;obtain⟨l,hl⟩:∃ l,x.ks.length=l:=⟨_,rfl⟩;rw[hl] at T J E |-;clear hl;generalize x.n=xn at *;have h3:¬ (8:Int)<(l:Int):=by omega
   cases b3
   all_goals
    go_enter Tryz.func97,Tryz.ntmps97
    go_wp2_with (first|(go_at_call 66;refine(I _).mono ?_;rintro e w' ⟨rfl,rfl⟩)|(go_at_call 132;refine(T.out _ (K2.out _ _) (C2.out _)).mono ?_;rintro e w' ⟨rfl,hb⟩))
    go_ret;exact⟨rfl,(zam _ _ _).trans (hb.mono (by simp;omega))⟩
theorem zyn{G:List Cl}{k:Nat}(h:k<G.length):G.drop k=cl G k :: G.drop (k+1):=by
 rw[zcq h];exact List.drop_eq_getElem_cons h
theorem zfP(a:Option Addr)(c:Nat)(G:List Cl)(w:World)(hN:G.length<=9223372036854775807)(hB:zkz G)(hS:zaG w a G) :
  Calls Tryz.prog 64 #[.agg #[.slice a G.length c]] w fun e w' => e=.returned (.int .i64 (zav G))/\Below w.heap.size w w' := by
 unfold zav;by_cases F:24<G.length
 ·rw[yb F];generalize G.length=n at *;clear hS hB;have M:(24:Int)<(n:Int):=by omega
  go_enter Tryz.func64,Tryz.ntmps64
  go_wp2
  go_ret;exact⟨rfl,zaa _ _⟩
 ·rw[ya F];have HS:Hid (zaG w a G):=hS;have Z:Hid (∀ i,i<G.length->∀ ka kc W,zaj W ka (cl G i).ks->Calls _ _ _ _ _):=fun i hi ka kc W hW=>zlw (cl G i) ka kc G.length W (by omega) (hB i hi) hW;have DR:Hid (∀ k,k<G.length->G.drop k=cl G k :: G.drop (k+1)):=fun k hk=>zyn hk;have DN:Hid (G.drop G.length=[]):=List.drop_length;have E0:Hid (cellsE G.length G=cellsE G.length (G.drop 0)):=rfl;clear hS hB;obtain⟨E,hR⟩:∃ r,cellsE G.length G=r:=⟨_,rfl⟩;rw[hR] at E0 |-;clear hR;obtain⟨n,hn⟩:∃ n,G.length=n:=⟨_,rfl⟩;have HN:Hid (G.length=n):=hn;rw[hn] at hN F Z DR DN E0 |-;clear hn;have M:¬ (24:Int)<(n:Int):=by omega
  go_enter Tryz.func64,Tryz.ntmps64
  go_wp2_with fail
  go_loopg [13] n (fun g s13 wr=>∃ k:Nat,k<=n/\n-k<=g/\s13=.int .i64 k/\Hid (Below w.heap.size w wr)/\wr.cell? ⟨w.heap.size,0,none⟩=some (.slice a n c)/\Hid (E=cellsE n (G.drop k)))
  case atStart=>exact⟨0,by omega,by omega,rfl,zaa _ _,by go_simp,E0⟩
  case round =>
   obtain⟨k,hk,hg,rfl,HB,lb,A⟩:=hrel;have b0:=yd _ _ lb;by_cases O:k<n
   ·have a9:(k:Int)<(n:Int):=by omega
    obtain⟨b,o,rfl,c0,ka,kc,c1,a6⟩:=(HS.out.below HB.out) k (by rw[HN.out];exact O);have I:Hid _:=fun W hW=>Z.out k O ka kc W hW;have KS:Hid (∀ o1,zaj (wr.alloc o1) ka (cl G k).ks):=fun o1=>a6.below (zaa _ _)
    have T:Hid (E=if zfa n (cl G k)=0 then cellsE n (G.drop (k+1)) else zfa n (cl G k)):=by
     show _=_;rw[A.out,DR.out k O];rfl
    clear a6 A;generalize cl G k=x at *;obtain⟨xn,a7⟩:=x;dsimp only at c0 c1;obtain⟨ev,a5⟩:∃ z,zfa n ⟨xn,a7⟩=z:=⟨_,rfl⟩;rw[a5] at I T;obtain⟨l,hl⟩:∃ z,a7.length=z:=⟨_,rfl⟩;dsimp only at I;rw[hl] at I c1;clear a5 hl
    go_wp2_with fail
    refine ye (I.out _ (KS.out _)) ?_;rintro e w1 ⟨rfl,hb⟩;have J:Below wr.heap.size wr w1:=(zaa _ _).trans (hb.mono (by simp));have U:Hid (Below w.heap.size w w1):=HB.out.trans (J.mono HB.out.size);have a8:=zab lb J;clear hb J lb;by_cases hz:ev=0
    ·subst hz;have D:Hid (E=cellsE n (G.drop (k+1))):=by show _=_;rw[T.out,yb rfl]
     clear T
     go_wp2_with fail
     go_roundg (n-(k+1))
     case measure=>omega
     case rel=>exact⟨k+1,by omega,by omega,by go_num,U,a8,D⟩
    ·have b1:(ev == 0)=false:=by simp[hz]
     have b2:decide (ev=0)=false:=decide_eq_false hz;have D:Hid (E=ev):=by show _=_;rw[T.out,ya hz]
     clear T
     go_wp2_with fail
     go_ret;exact⟨by rw[D.out];rfl,U.out⟩
   ·have:k=n:=by omega
    subst this;have D:Hid (E=0):=by show _=_;rw[A.out,DN.out];rfl
    clear A
    go_wp2_with fail
    go_ret;exact⟨by rw[D.out];rfl,HB.out⟩
theorem zsJ(x y:Cl):x=y↔(x.n=y.n/\x.ks=y.ks):=by
 constructor
 ·rintro rfl;exact⟨rfl,rfl⟩
 ·obtain⟨a,b⟩:=x;obtain⟨c,d⟩:=y;rintro⟨rfl,rfl⟩;rfl
def zsj(K:Nat):Prop:=∀ (x y:Cl) (ka D:Option Addr) (kc E:Nat) (W:World),x.ks.length<=9223372036854775807->zaj W ka x.ks->zaj W D y.ks ->
 Calls Tryz.prog K #[.agg #[.int .i64 x.n,.slice ka x.ks.length kc],.agg #[.int .i64 y.n,.slice D y.ks.length E]] W fun e w' => ∃ r:Bool,e=.returned (.bool r)/\Below W.heap.size W w' /\(r=true↔x=y)
theorem zkn(K:Nat)(eg:∀ args w,(callFunc K args).run Tryz.prog w=.ok (.enter K args) w)(hK:zsj K)(a a' : Option Addr)(c c' : Nat)(S D:List Cl)(w:World)(hN:S.length<=9223372036854775807)(hB:zkz S)(h1:zaG w a S)(h2:zaG w a' D) :
  Calls Tryz.prog 45 #[.slice a S.length c,.slice a' D.length c', .func (.func K) #[] #[]] w fun e w' => ∃ r:Bool,e=.returned (.bool r)/\Below w.heap.size w w' /\(r=true↔S=D):=by
 by_cases hl:S.length=D.length
 ·have E1:Hid ((∀ i,i<S.length->cl S i=cl D i)->S=D):=fun h=>zzA hl h;have E2:Hid (∀ i,cl S i≠cl D i->S≠D):=fun i h e=>h (by rw[e]);have H1:Hid (zaG w a S):=h1;have H2:Hid (zaG w a' D):=h2;have HB:Hid (zkz S):=hB;have HK:Hid (zsj K):=hK;have HL:Hid (D.length=S.length):=hl.symm;rw[<- hl];clear h1 h2 hB hl hK;generalize hn:S.length=n at *;have HN:Hid _:=hn;clear hn
  go_enter Tryz.func45,Tryz.ntmps45
  go_wp2
  go_loopg [17] n (fun g s17 wr=>∃ k:Nat,k<=n/\n-k<=g/\s17=.int .i64 k/\Below w.heap.size w wr/\Hid (∀ i,i<k->cl S i=cl D i))
  case atStart=>exact⟨0,by omega,by omega,rfl,yk _ _,fun i hi=>by omega⟩
  case round =>
   obtain⟨k,hk,hg,rfl,E,A⟩:=hrel;by_cases F:k<n
   ·have a8:(k:Int)<(n:Int):=by omega
    obtain⟨b,o,rfl,c0,ka,kc,c5,J⟩:=(H1.out.below E) k (by rw[HN.out];exact F);obtain⟨b', o', rfl,e0,a5,a6,e5,M⟩:=(H2.out.below E) k (by rw[HL.out];exact F);have a9:=yd _ _ c0;have a7:=yd _ _ e0;have d1:=fun o1 o2=>HK.out (cl S k) (cl D k) ka a5 kc a6 ((wr.alloc o1).alloc o2) (HB.out k (by rw[HN.out];exact F)) (J.below (zam _ _ _)) (M.below (zam _ _ _));have T:Hid _:=E2.out k
    have KK:Hid (cl S k=cl D k->∀ i,i<k+1->cl S i=cl D i):=fun h i hi=>by
     by_cases e:i=k
     ·subst e;exact h
     ·exact A.out i (by omega)
    clear J M;have D1:Hid _:=d1;clear d1;generalize cl S k=x at *;generalize cl D k=y at *
    go_wp2_with fail
    refine(D1.out _ _).mono ?_;rintro e w3 ⟨r,rfl,I,O⟩
    cases r with
    | true =>
     have Z:Hid _:=O.1 rfl;clear O
     go_wp2
     go_roundg (n-(k+1))
     case measure=>omega
     case rel=>exact⟨k+1,by omega,by omega,by go_num,(E.trans ((zam _ _ _).mono E.size)).trans (I.mono (by simp;have:=E.size;omega)),KK.out Z.out⟩
    | false =>
     have Z:Hid (S≠D):=T.out fun e=>by have:=O.2 e;cases this
     clear O
     go_wp2
     go_ret;exact⟨false,rfl,(E.trans ((zam _ _ _).mono E.size)).trans (I.mono (by simp;have:=E.size;omega)),⟨fun h=>(by cases h),fun h=>absurd h Z.out⟩⟩
   ·have:k=n:=by omega
    subst this
    go_wp2
    go_ret;exact⟨true,rfl,E,⟨fun _=>E1.out A.out,fun _=>rfl⟩⟩
 ·have b0:¬ ((S.length:Int)=(D.length:Int)):=by omega
  have U:Hid (S≠D):=fun e=>hl (by rw[e]);clear h1 h2 hB hK;generalize S.length=n at *;generalize D.length=n' at *
  go_enter Tryz.func45,Tryz.ntmps45
  go_wp2
  go_ret;exact⟨false,rfl,yk _ _,⟨fun h=>(by cases h),fun h=>absurd h U.out⟩⟩
theorem zqQ:zsj 46:=by
 intro x y ka U kc a5 W M h1 h2;have F:Hid (x=y↔(x.n=y.n/\x.ks=y.ks)):=zsJ x y;have d:=fun(w' : World) (i1:zaj w' ka x.ks) (i2:zaj w' U y.ks)=>zgU ka U kc a5 x.ks y.ks w' M i1 i2;have D:Hid _:=d;have I1:Hid (∀ o1 o2,zaj ((W.alloc o1).alloc o2) ka x.ks):=fun o1 o2=>h1.below (zam _ _ _);have I2:Hid (∀ o1 o2,zaj ((W.alloc o1).alloc o2) U y.ks):=fun o1 o2=>h2.below (zam _ _ _);clear h1 h2 d;obtain⟨xn,I⟩:=x;obtain⟨yn,J⟩:=y;dsimp only at F D I1 I2 |-;obtain⟨xl,O⟩:∃ z,I.length=z:=⟨_,rfl⟩;obtain⟨yl,T⟩:∃ z,J.length=z:=⟨_,rfl⟩;rw[O,T] at D;rw[O,T];clear O T M;by_cases he:xn=yn
 ·have E:Hid ((⟨xn,I⟩:Cl)=⟨yn,J⟩↔I=J):=by show _↔_;rw[F.out];simp[he]
  subst he;clear F
  go_enter Tryz.func46,Tryz.ntmps46
  go_wp2_with fail
  refine ye (D.out _ (I1.out _ _) (I2.out _ _)) ?_;rintro e w1 ⟨rfl,hb⟩;have HB:Hid (Below W.heap.size W w1):=(zam _ _ _).trans (hb.mono (by simp;omega));clear hb;by_cases Z:I=J
  ·have HR:Hid _:=E.out.2 Z;rw[decide_eq_true Z];clear Z E
   go_wp2
   go_ret;exact⟨true,rfl,HB.out,⟨fun _=>HR.out,fun _=>rfl⟩⟩
  ·have HR:Hid _:=fun h=>Z (E.out.1 h);rw[decide_eq_false Z];clear Z E
   go_wp2
   go_ret;exact⟨false,rfl,HB.out,⟨fun h=>(by cases h),fun h=>absurd h HR.out⟩⟩
 ·have hd:decide (xn=yn)=false:=decide_eq_false he;have a6:(xn == yn)=false:=by simp[he]
  have HR:Hid (¬ (⟨xn,I⟩:Cl)=⟨yn,J⟩):=fun h=>he (F.out.1 h).1;clear F
  go_enter Tryz.func46,Tryz.ntmps46
  go_wp2_with fail
  go_ret;exact⟨false,rfl,zam _ _ _,⟨fun h=>(by cases h),fun h=>absurd h HR.out⟩⟩
theorem ztq(a E:Option Addr)(c F:Nat)(S D:List Cl)(w:World)(U:S.length<=9223372036854775807)(J:zkz S)(h1:zaG w a S)(I:zaG w E D) :
  Calls Tryz.prog 15 #[.agg #[.slice a S.length c],.agg #[.slice E D.length F]] w fun e w' => ∃ r:Bool,e=.returned (.bool r)/\Below w.heap.size w w' /\(r=true↔S=D):=by
 have O:Hid _:=fun o1 o2=>zkn 46 (enters_of Tryz.func46 (by kernel_rfl) rfl) zqQ a E c F S D ((w.alloc o1).alloc o2) U J (h1.below (zam _ _ _)) (I.below (zam _ _ _));clear h1 I J;generalize S.length=n at *;generalize D.length=n' at *
 go_enter Tryz.func15,Tryz.ntmps15
 go_wp2_with (go_at_call 45;refine(O.out _ _).mono ?_;rintro e w1 ⟨r,rfl,Z,M⟩;have T:Hid _:=M;clear M)
 go_ret;exact⟨r,rfl,(zam _ _ _).trans (Z.mono (by simp;omega)),T.out⟩
end Go.Proofs.YtcbcpomacdngmaaGreat
