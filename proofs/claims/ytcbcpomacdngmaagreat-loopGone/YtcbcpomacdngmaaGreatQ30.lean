/-
  x
-/
import Derived.Test.YtcbcpomacdngmaaGreatQ29
namespace Go.Proofs.YtcbcpomacdngmaaGreat
set_option maxRecDepth 100000
set_option maxHeartbeats 4000000
set_option linter.unusedVariables false
open Go.RowKit Go.ChangeShapes Go.WideShapes
theorem zlz(a:Option Addr)(c:Nat)(L:List Pt)(i:Nat)(Fr:Int)(w:World)(hN:L.length<=12)(hi:i<L.length)(hB:zmu L)(hL:zbR w a L) :
  Calls Tryz.prog 69 #[.slice a L.length c,.int .i64 (i:Int),.int .i64 Fr] w fun e w' => e=.returned (.int .i64 (zdv L Fr i))/\Below w.heap.size w w' := by
 have HL:Hid (zbR w a L):=hL;obtain⟨b,o,ea,c0,c1,c2,ca,cc,c3,⟨_,hk⟩,c4⟩:=hL i hi;subst ea;obtain⟨a8,a5⟩:=hB i hi;have b4:b<w.heap.size:=yd _ _ c0;have b2:(i:Int)<(L.length:Int):=by omega
 have T:Hid (∀ W,_):=fun W=>zgg (pt L i).o Fr W;have O:Hid (∀ W,_):=fun W=>zkS (some ⟨b,o,none⟩) L.length c (pt L i).m W (by omega);have U:Hid (∀ W,_):=fun W=>ziv (pt L i).t W;have DC:Hid (∀ W,Below w.heap.size w W->_):=fun W hW=>zlv (pt L i) ca cc W a8 a5 (hk.below hW);clear hL hB hk a5;by_cases I:0<=(pt L i).o/\(pt L i).o<Fr
 ·rw[decide_eq_true I] at T;by_cases J:0<=(pt L i).m/\(pt L i).m<=(L.length:Int)-1
  ·rw[decide_eq_true J] at O;obtain⟨q,hq⟩:=Int.eq_ofNat_of_zero_le J.1;have b1:q<L.length:=by omega
   have b3:(q:Int)<(L.length:Int):=by omega
   obtain⟨b', o', b0,_,_,d2,_⟩:=HL.out q b1;cases b0
   have Z:Hid (zdv L Fr i=if (q:Int)=i\/(pt L q).m≠i then 3 else if ¬ (0<=(pt L i).t/\(pt L i).t<=1000) then 2 else zsC (pt L i).cm.length (pt L i).s (zbo (pt L i).cm)):=by
    show zdv L Fr i=_;unfold zdv zsC;rw[ya (fun h=>by rcases h with h|h;exact absurd I h;exact absurd J h),hq,yi]
   rw[hq] at c2 O DC;clear J I hq HL;rw[Z.out];clear Z;generalize (pt L q).m=ym at *;by_cases e1:q=i
   ·rw[yb (Or.inl (by omega))];have a9:i=q:=e1.symm;clear e1;subst a9;clear DC U;generalize (pt L i).o=xo at *;generalize (pt L i).t=xt at *;generalize (pt L i).cm.length=cl at *;generalize (pt L i).s=xs at *;generalize L.length=n at *;have y1:((i:Int) ==(i:Int))=true:=by simp
    go_enter Tryz.func69,Tryz.ntmps69
    go_wp2_with fail
    refine ye (T.out _) ?_;rintro e M ⟨rfl,D⟩;have F:=D.symm;clear D;subst F
    go_wp2_with fail
    refine ye (O.out _) ?_;rintro e M ⟨rfl,D⟩;have F:=D.symm;clear D;subst F
    go_wp2_with fail
    go_ret;exact⟨rfl,zaa _ _⟩
   ·have y1:((q:Int) ==(i:Int))=false:=by simp;omega
    have y2:decide ((q:Int)=(i:Int))=false:=decide_eq_false (by omega);have y3:decide (q=i)=false:=decide_eq_false e1;by_cases e2:ym=(i:Int)
    ·rw[ya (fun h=>by rcases h with h|h;omega;exact absurd e2 h)];subst e2;by_cases hT:0<=(pt L i).t/\(pt L i).t<=1000
     ·rw[decide_eq_true hT] at U;rw[ya (not_not_intro hT)];clear hT;generalize zsC (pt L i).cm.length (pt L i).s (zbo (pt L i).cm)=E at *;generalize (pt L i).o=xo at *;generalize (pt L i).t=xt at *;generalize (pt L i).cm.length=cl at *;generalize (pt L i).s=xs at *;generalize L.length=n at *
      go_enter Tryz.func69,Tryz.ntmps69
      go_wp2_with fail
      refine ye (T.out _) ?_;rintro e M ⟨rfl,D⟩;have F:=D.symm;clear D;subst F
      go_wp2_with fail
      refine ye (O.out _) ?_;rintro e M ⟨rfl,D⟩;have F:=D.symm;clear D;subst F
      go_wp2_with fail
      refine ye (U.out _) ?_;rintro e M ⟨rfl,D⟩;have F:=D.symm;clear D;subst F
      go_wp2_with fail
      refine ye (DC.out _ (zaa _ _)) ?_;rintro e M ⟨rfl,a6⟩;have a7:Hid (Below w.heap.size w M):=(zaa _ _).trans (a6.mono (by simp));clear a6
      go_wp2_with fail
      go_ret;exact⟨rfl,a7.out⟩
     ·rw[decide_eq_false hT] at U;rw[yb hT];clear hT DC;generalize (pt L i).o=xo at *;generalize (pt L i).t=xt at *;generalize (pt L i).cm.length=cl at *;generalize (pt L i).s=xs at *;generalize L.length=n at *
      go_enter Tryz.func69,Tryz.ntmps69
      go_wp2_with fail
      refine ye (T.out _) ?_;rintro e M ⟨rfl,D⟩;have F:=D.symm;clear D;subst F
      go_wp2_with fail
      refine ye (O.out _) ?_;rintro e M ⟨rfl,D⟩;have F:=D.symm;clear D;subst F
      go_wp2_with fail
      refine ye (U.out _) ?_;rintro e M ⟨rfl,D⟩;have F:=D.symm;clear D;subst F
      go_wp2_with fail
      go_ret;exact⟨rfl,zaa _ _⟩
    ·rw[yb (Or.inr e2)];have y4:(ym ==(i:Int))=false:=by simp[e2]
     have y5:decide (ym=(i:Int))=false:=decide_eq_false e2;have y6:(ym !=(i:Int))=true:=by simp[e2]
     clear DC U;generalize (pt L i).o=xo at *;generalize (pt L i).t=xt at *;generalize (pt L i).cm.length=cl at *;generalize (pt L i).s=xs at *;generalize L.length=n at *
     go_enter Tryz.func69,Tryz.ntmps69
     go_wp2_with fail
     refine ye (T.out _) ?_;rintro e M ⟨rfl,D⟩;have F:=D.symm;clear D;subst F
     go_wp2_with fail
     refine ye (O.out _) ?_;rintro e M ⟨rfl,D⟩;have F:=D.symm;clear D;subst F
     go_wp2_with fail
     go_ret;exact⟨rfl,zaa _ _⟩
  ·rw[decide_eq_false J] at O
   have Z:Hid (zdv L Fr i=4):=by
    show zdv L Fr i=_;unfold zdv;rw[yb (Or.inr J)]
   rw[Z.out];clear Z J I DC U HL;generalize (pt L i).o=xo at *;generalize (pt L i).t=xt at *;generalize (pt L i).m=xm at *;generalize (pt L i).cm.length=cl at *;generalize (pt L i).s=xs at *;generalize L.length=n at *
   go_enter Tryz.func69,Tryz.ntmps69
   go_wp2_with fail
   refine ye (T.out _) ?_;rintro e M ⟨rfl,D⟩;have F:=D.symm;clear D;subst F
   go_wp2_with fail
   refine ye (O.out _) ?_;rintro e M ⟨rfl,D⟩;have F:=D.symm;clear D;subst F
   go_wp2_with fail
   go_ret;exact⟨rfl,zaa _ _⟩
 ·rw[decide_eq_false I] at T
  have Z:Hid (zdv L Fr i=4):=by
   show zdv L Fr i=_;unfold zdv;rw[yb (Or.inl I)]
  rw[Z.out];clear Z I DC U O HL;generalize (pt L i).o=xo at *;generalize (pt L i).t=xt at *;generalize (pt L i).m=xm at *;generalize (pt L i).cm.length=cl at *;generalize (pt L i).s=xs at *;generalize L.length=n at *
  go_enter Tryz.func69,Tryz.ntmps69
  go_wp2_with fail
  refine ye (T.out _) ?_;rintro e M ⟨rfl,D⟩;have F:=D.symm;clear D;subst F
  go_wp2_with fail
  go_ret;exact⟨rfl,zaa _ _⟩
theorem zhS:zsg:=fun a c L Fr w hN hB a6 hL=>by
 by_cases hm:12<L.length
 ·have e:zbd L Fr=1:=by unfold zbd;rw[yb hm]
  rw[e];have a5:decide ((12:Int)<(L.length:Int))=true:=decide_eq_true (by omega);clear hL e hB a6;generalize L.length=n at *
  go_enter Tryz.func37,Tryz.ntmps37
  go_wp2_with fail
  go_ret;exact⟨rfl,yk _ _⟩
 ·have e:zbd L Fr=zoY L Fr 0:=by unfold zbd;rw[ya hm]
  rw[e];have a5:decide ((12:Int)<(L.length:Int))=false:=decide_eq_false (by omega);have D:Hid (∀ i,i<L.length->∀ W,Below w.heap.size w W->_):=fun i hi W hW=>zlz a c L i Fr W (by omega) hi hB (hL.below hW);have ST:Hid (∀ i,i<L.length->zoY L Fr i=if zdv L Fr i=0 then zoY L Fr (i+1) else zdv L Fr i):=fun i hi=>zup hi;have EN:Hid (zoY L Fr L.length=0):=zwG (yj _);clear hL e hB a6;obtain⟨E,hE⟩:∃ E,zoY L Fr 0=E:=⟨_,rfl⟩;have HE:Hid (zoY L Fr 0=E):=hE;rw[hE];clear hE;obtain⟨n,hn⟩:∃ n,L.length=n:=⟨_,rfl⟩;rw[hn] at hN hm a5 ST EN D |-;clear hn
  go_enter Tryz.func37,Tryz.ntmps37
  go_wp2_with fail
  go_loopg [12] n (fun g s12 wr=>∃ i:Nat,i<=n/\n-i<=g/\s12=.int .i64 i/\Hid (Below w.heap.size w wr)/\Hid (zoY L Fr i=E))
  case atStart=>exact⟨0,by omega,by omega,rfl,yk _ _,HE⟩
  case round =>
   obtain⟨i,hi,hg,rfl,F,I⟩:=hrel;clear HE;by_cases Z:i<n
   ·have a9:(i:Int)<(n:Int):=by omega
    have Di:Hid _:=D.out i Z wr F.out;have a7:=(ST.out i Z).symm.trans I.out;have J:Hid _:=a7;clear a7 I;generalize zdv L Fr i=P at *
    go_wp2_with fail
    refine ye Di.out ?_;rintro e w1 ⟨rfl,U⟩;have O:Hid (Below w.heap.size w w1):=F.out.trans (U.mono F.out.size);clear U Di;by_cases T:P=0
    ·have M:Hid (zoY L Fr (i+1)=E):=by have:=J.out;rw[yb T] at this;exact this
     subst T;clear J
     go_wp2_with fail
     go_roundg (n-(i+1))
     case measure=>omega
     case rel=>exact⟨i+1,by omega,by omega,by go_num,O,M⟩
    ·have M:Hid (P=E):=by have:=J.out;rw[ya T] at this;exact this
     have y1:decide (P=0)=false:=decide_eq_false T;have y2:(P == 0)=false:=by simp[T]
     clear J
     go_wp2_with fail
     go_ret;exact⟨by rw[M.out];rfl,O.out⟩
   ·have e:i=n:=by omega
    have a8:Hid (0=E):=by have:=I.out;rw[e,EN.out] at this;exact this
    have b0:decide ((i:Int)<(n:Int))=false:=decide_eq_false (by omega);clear I e
    go_wp2_with fail
    go_ret;exact⟨by rw[a8.out];rfl,F.out⟩
theorem zce(a:Option Addr)(c:Nat)(L:List Pt)(Fr k o t:Int)(w:World)(hN:L.length<=9223372036854775807)(hB:zmu L)(a5:SlA a L.length c)(hL:zbR w a L) :
  Calls Tryz.prog 159 #[.slice a L.length c,.int .i64 Fr,.int .i64 k,.int .i64 o,.int .i64 t] w fun e w' => e=.returned (.int .i64 (zaT L Fr k o t))/\Below w.heap.size w w' := by
 have M:Hid _:=zhS a c L Fr w hN hB a5 hL;have HL:Hid (zbR w a L):=hL;clear hL hB a5;unfold zaT;by_cases h1:zbd L Fr=0
 ·rw[ya (not_not_intro h1)];rw[h1] at M;have a7:L.length<=12:=(zcH.1 h1).few;have T:Hid (∀ W,_):=fun W=>zkS a L.length c k W (by omega);by_cases h2:0<=k/\k<(L.length:Int)
  ·rw[ya (not_not_intro h2)];rw[decide_eq_true (show 0<=k/\k<=(L.length:Int)-1 by omega)] at T;obtain⟨q,rfl⟩:=Int.eq_ofNat_of_zero_le h2.1;have hq:q<L.length:=by omega
   have a8:(q:Int)<(L.length:Int):=by omega
   rw[yi];obtain⟨b,oo,ea,c0,c1,c2,ca,cc,c3,a6,c4⟩:=HL.out q hq;subst ea;clear h1 h2 a6 c2 c3 HL;generalize pt L q=x at *;obtain⟨xo,xt,xm,xc,xs⟩:=x;dsimp only at c0 c1 c4 |-;by_cases U:xo=o
   ·subst U;by_cases Z:xt=t
    ·subst Z;rw[ya (by simp)];cases xs
     ·rw[ya (by decide)];generalize L.length=n at *
      go_enter Tryz.func159,Tryz.ntmps159
      go_wp2_with fail
      refine ye M.out ?_;rintro e O ⟨rfl,D⟩;have I:Hid (Below w.heap.size w O):=D;replace c0:=zab c0 D;replace c1:=zab c1 D;replace c4:=zab c4 D;clear D M
      go_wp2_with fail
      refine ye (T.out _) ?_;rintro e w2 ⟨rfl,F⟩;have J:=F.symm;clear F;subst J
      go_wp2_with fail
      go_ret;exact⟨rfl,I.out⟩
     ·rw[yb rfl];generalize L.length=n at *
      go_enter Tryz.func159,Tryz.ntmps159
      go_wp2_with fail
      refine ye M.out ?_;rintro e O ⟨rfl,D⟩;have I:Hid (Below w.heap.size w O):=D;replace c0:=zab c0 D;replace c1:=zab c1 D;replace c4:=zab c4 D;clear D M
      go_wp2_with fail
      refine ye (T.out _) ?_;rintro e w2 ⟨rfl,F⟩;have J:=F.symm;clear F;subst J
      go_wp2_with fail
      go_ret;exact⟨rfl,I.out⟩
    ·rw[yb (Or.inr Z)];have y1:decide (xt=t)=false:=decide_eq_false Z;have y2:(xt == t)=false:=by simp[Z]
     have y3:(xt != t)=true:=by simp[Z]
     generalize L.length=n at *
     go_enter Tryz.func159,Tryz.ntmps159
     go_wp2_with fail
     refine ye M.out ?_;rintro e O ⟨rfl,D⟩;have I:Hid (Below w.heap.size w O):=D;replace c0:=zab c0 D;replace c1:=zab c1 D;replace c4:=zab c4 D;clear D M
     go_wp2_with fail
     refine ye (T.out _) ?_;rintro e w2 ⟨rfl,F⟩;have J:=F.symm;clear F;subst J
     go_wp2_with fail
     go_ret;exact⟨rfl,I.out⟩
   ·rw[yb (Or.inl U)];have y1:decide (xo=o)=false:=decide_eq_false U;have y2:(xo == o)=false:=by simp[U]
    have y3:(xo != o)=true:=by simp[U]
    generalize L.length=n at *
    go_enter Tryz.func159,Tryz.ntmps159
    go_wp2_with fail
    refine ye M.out ?_;rintro e O ⟨rfl,D⟩;have I:Hid (Below w.heap.size w O):=D;replace c0:=zab c0 D;replace c1:=zab c1 D;replace c4:=zab c4 D;clear D M
    go_wp2_with fail
    refine ye (T.out _) ?_;rintro e w2 ⟨rfl,F⟩;have J:=F.symm;clear F;subst J
    go_wp2_with fail
    go_ret;exact⟨rfl,I.out⟩
  ·rw[yb h2];rw[decide_eq_false (show ¬ (0<=k/\k<=(L.length:Int)-1) by omega)] at T;clear h1 h2 HL;generalize L.length=n at *
   go_enter Tryz.func159,Tryz.ntmps159
   go_wp2_with fail
   refine ye M.out ?_;rintro e O ⟨rfl,D⟩;have I:Hid (Below w.heap.size w O):=D;clear D M
   go_wp2_with fail
   refine ye (T.out _) ?_;rintro e w2 ⟨rfl,F⟩;have J:=F.symm;clear F;subst J
   go_wp2_with fail
   go_ret;exact⟨rfl,I.out⟩
 ·rw[yb h1];have y1:decide (zbd L Fr=0)=false:=decide_eq_false h1;have y2:(zbd L Fr == 0)=false:=by simp[h1]
  clear HL;generalize zbd L Fr=E at *;generalize L.length=n at *
  go_enter Tryz.func159,Tryz.ntmps159
  go_wp2_with fail
  refine ye M.out ?_;rintro e O ⟨rfl,D⟩;have I:Hid (Below w.heap.size w O):=D;clear D M
  go_wp2_with fail
  go_ret;exact⟨rfl,I.out⟩
theorem zdr{L:List Pt}{Fr:Int}(R:zdn L Fr):zxm L:=fun i hi=>by
 obtain⟨_,_,_,_,h5,E⟩:=zbm.1 (R.ok i hi);have hg:=zci.1 E;exact⟨by omega,fun j D=>⟨by have:=(hg j D).few;omega,fun m F=>by have:=(hg j D).kids8 m F;omega⟩⟩
theorem zuw{B0 B:Nat}(h0:B0<=B){w:World}{v:Value}{M:List Pt}{K:Nat->Value}(row:w.ownsRow B 121 5 v M.length (zcb M K))(hg:∀ i,i<M.length->St (fun x=>x<B0) (fun w=>znO w (K i) (pt M i).cm) w) :
  ∃ a c,v=.slice a M.length c/\SlA a M.length c/\St (fun x=>x<B0) (fun w=>zbR w a M) w:=by
 have D:∀ w', zaq (fun x=>x<B0) w w' -> ∃ a c,v=.slice a M.length c/\zbR w' a M:=fun w' F =>
  zux (zau row (fun j J=>F.block j (row.lt j J).2 (by show ¬ j<B0;have:=(row.lt j J).1;omega))) (fun i hi=>hg i hi w' F)
 obtain⟨a,c,e,_⟩:=D w (zaq.refl _ w);refine⟨a,c,e,?_,fun w' F=>?_⟩
 ·rcases row.2 with ⟨E,hn⟩ |⟨g,cap,O,E,_,_,h1,T,_⟩
  ·rw[e] at E;simp only[Value.slice.injEq] at E;obtain⟨rfl,_,rfl⟩:=E;exact⟨fun _=>rfl,by omega,by omega⟩
  ·rw[e] at E;cases E;exact⟨(fun h=>by cases h),h1,by unfold maxLen at T;omega⟩
 ·obtain⟨Z,c', I,U⟩:=D w' F;rw[e] at I;cases I;exact U
theorem CpI.grs{B B0:Nat}{L:List Pt}{K:Nat->Value}{lo hi:Nat->Nat}{w E:World}{Y:Nat->Prop}(h:CpI B L K lo hi L.length w)(h0:B0<=B)(F:zxm L)(o:zaq Y w E){i:Nat}(D:i<L.length)(I:∀ b,Y b->b<lo i\/hi i<=b):St (fun x=>x<B0) (fun w=>znO w (K i) (pt L i).cm) E:=fun w' M =>
 (((h.gs i D).off o I).off M (fun b J=>Or.inl (by have:b<B0:=J;have:=(h.at' i D).1;omega))).grs (F i D).1
theorem CpI.put{B B0:Nat}{L:List Pt}{K I:Nat->Value}{lo hi:Nat->Nat}{w F:World}{Y:Nat->Prop}{q:Nat}{x:Pt}(h:CpI B L K lo hi L.length w)(h0:B0<=B)(U:zxm L)(hq:q<L.length)
  (row:F.ownsRow B 121 5 (.slice (some ⟨B,0,none⟩) L.length L.length) L.length (zcb (L.set q x) I)) (hK:∀ i,i≠q->I i=K i) (o:zaq Y w F) (Z:∀ b,Y b->b<=B\/(lo q<=b/\b<hi q)) (hx:St (fun x=>x<B0) (fun w=>znO w (I q) x.cm) F) :
  SlA (some ⟨B,0,none⟩) L.length L.length/\St (fun x=>x<B0) (fun w=>zbR w (some ⟨B,0,none⟩) (L.set q x)) F:=by
 have J:(L.set q x).length=L.length:=List.length_set;have E:F.ownsRow B 121 5 (.slice (some ⟨B,0,none⟩) L.length L.length) (L.set q x).length (zcb (L.set q x) I):=by rw[J];exact row
 obtain⟨a,c,e,hs,hp⟩:=zuw h0 E (fun i D=>by
  rw[J] at D;by_cases e:i=q
  ·subst e;rw[zmh D];exact hx
  ·rw[zjE D,ya (fun M=>e M.symm),hK i e];refine h.grs h0 U o D (fun b hb=>?_);have h1:=(h.at' i D).1;rcases Z b hb with O|O
   ·exact Or.inl (by omega)
   ·rcases h.ap i q D hq e with T|T
    ·exact Or.inr (by omega)
    ·exact Or.inl (by omega))
 rw[J] at e hs;cases e;exact⟨hs,hp⟩
theorem CpI.cell{B:Nat}{L:List Pt}{K:Nat->Value}{lo hi:Nat->Nat}{w:World}(h:CpI B L K lo hi L.length w){k f:Nat}(E:k<L.length)(D:f<5):w.cell? ⟨B,k*5+f,none⟩=(zcQ (pt L k) (K k))[f]?:=zuJ h.row rfl E D
theorem zhk{X:Nat->Prop}{B0:Nat}{w:World}{a:Option Addr}{M:List Pt}(D:∀ b,X b->b<B0)(h:St (fun x=>x<B0) (fun w=>zbR w a M) w):zbJ X w a M:=h.less D
theorem zbw(X:Nat->Prop)(w:World):zbJ X w none []:=fun w' _=>zwL w'
theorem zda:SlA none ([]:List Pt).length 0:=⟨fun _=>rfl,yj _,by omega⟩
theorem zuO:zlo:=fun X a c L Fr k o t w hX hN hB Z hL=>by
 have DH:Hid _:=zce a c L Fr k o t w hN hB Z hL.at;unfold zeN;by_cases J:zaT L Fr k o t=0
 ·rw[yb J,J];rw[J] at DH;obtain⟨R,q,rfl,U,_⟩:=zcm J;have O:=R.few;have hF:=zdr R;have DP:Hid (∀ W,Below w.heap.size w W->_):=fun W hW=>zdU a c L W O hF (hL.at.below hW)
  have T:Hid (∀ (B:Nat) (F:World) (K:Nat->Value) (lo hi:Nat->Nat),w.heap.size<=B->CpI B L K lo hi L.length F->SlA (some ⟨B,0,none⟩) L.length L.length/\zbJ X ((F.setCell ⟨B,q*5+4,none⟩ (.bool true)).setCell ⟨B,q*5+3,none⟩ (.slice none 0 0)) (some ⟨B,0,none⟩) (zhX L q)):=fun B F K lo hi a8 h=>by
   have a1:=zhW h.row (k:=q) (f:=4) (u:=.bool true) (v:=K q) (x:={ pt L q with s:=true }) U (by omega) rfl;have a2:=zhW a1 (k:=q) (f:=3) (u:=.slice none 0 0) (v:=.slice none 0 0) (x:={ pt L q with s:=true,cm:=[] }) (by simpa using U) (by omega) (by rw[zmh U];simp only[if_true];rfl);rw[List.set_set] at a2;have h1:=h.put (Y:=fun b=>b=B) a8 hF U a2 (fun i hi=>by simp only[ya hi]) ((zaq.set (X:=fun b=>b=B) _ _ rfl).trans (zaq.set (X:=fun b=>b=B) _ _ rfl)) (fun b hb=>Or.inl (by have:b=B:=hb;omega)) (fun w' _=>by simp only[if_true];exact znO.nil w');unfold zhX;rw[yi];exact⟨h1.1,zhk hX h1.2⟩
  have OC:Hid (∀ (B:Nat) (F:World) (K:Nat->Value) (lo hi:Nat->Nat),CpI B L K lo hi L.length F->F.cell? ⟨B,q*5+3,none⟩=some (K q)/\F.cell? ⟨B,q*5+4,none⟩=some (.bool (pt L q).s)/\∀ o,F.frozen? ⟨B,o,none⟩=false):=fun B F K lo hi h=>⟨h.cell U (show 3<5 by omega),h.cell U (show 4<5 by omega),fun o=>h.row.frozenAt o⟩;have ML:Hid ((zhX L q).length=L.length):=by show _=_;unfold zhX;simp
  have a9:(q:Int)<(L.length:Int):=by omega
  clear hL hB Z hF R J hN;generalize (pt L q).s=xs at *;generalize zhX L q=M at *;obtain⟨n,hn⟩:∃ z,L.length=z:=⟨_,rfl⟩;rw[hn] at U a9 O DH DP T OC ML;rw[hn];clear hn
  go_enter Tryz.func147,Tryz.ntmps147
  go_wp2_with fail
  refine ye DH.out ?_;rintro e I ⟨rfl,a6⟩;have D:Hid (Below w.heap.size w I):=a6;clear a6 DH
  go_wp2_with fail
  refine ye (DP.out _ D.out) ?_;rintro e w2 ⟨K,lo,hi,rfl,a7,hc⟩;obtain⟨x3,x4,fz⟩:=OC.out _ _ _ _ _ hc;have s2:I.heap.size<w2.heap.size:=yd _ _ x3;have FF:Hid _:=T.out _ _ _ _ _ D.out.size hc;have a5:Hid (Below w.heap.size w ((w2.setCell ⟨I.heap.size,q*5+4,none⟩ (.bool true)).setCell ⟨I.heap.size,q*5+3,none⟩ (.slice none 0 0))):=((D.out.trans (a7.mono D.out.size)).setCell (show w.heap.size<=I.heap.size from D.out.size) _).setCell (show w.heap.size<=I.heap.size from D.out.size) _;clear a7 hc DP T OC;generalize K q=kq at *
  go_wp2_with fail
  exact yv (v:=.tuple #[.slice (some ⟨I.heap.size,0,none⟩) n n,.int .i64 0]) (by simp[results,Tryz.results147,go_sem]) rfl (by first|exact⟨_,n,by rw[ML.out],a5.out,(by rw[ML.out];exact FF.out.1),FF.out.2⟩|exact⟨_,⟨n,by rw[ML.out]⟩,a5.out,(by rw[ML.out];exact FF.out.1),FF.out.2⟩)
 ·rw[ya J];have y1:decide (zaT L Fr k o t=0)=false:=decide_eq_false J;have y2:(zaT L Fr k o t == 0)=false:=by simp[J]
  clear hL hB Z;generalize zaT L Fr k o t=E at *;generalize L.length=n at *
  go_enter Tryz.func147,Tryz.ntmps147
  go_wp2_with fail
  refine ye DH.out ?_;rintro e I ⟨rfl,hb⟩;have D:Hid (Below w.heap.size w I):=hb;clear hb DH
  go_wp2_with fail
  exact yv (v:=.tuple #[.slice none 0 0,.int .i64 E]) (by simp[results,Tryz.results147,go_sem]) rfl ⟨none,0,rfl,D.out,zda,zbw X _⟩
theorem zuq:zll:=fun X a c L Fr k o t D th w hX hN hB a5 hL=>by
 have DH:Hid _:=zce a c L Fr k o t w hN hB a5 hL.at;have DO:Hid (∀ W,_):=fun W=>zgd Fr D th W;unfold zeK;rw[zur];by_cases T:zaT L Fr k o t=0
 ·have eT:zuX (zaT L Fr k o t) (zcy Fr D th)=zcy Fr D th:=by unfold zuX;rw[T];simp
  rw[eT];rw[T] at DH;obtain⟨R,q,rfl,Z,_⟩:=zcm T;have a6:=R.few;have hF:=zdr R;by_cases hE:zcy Fr D th=0
  ·rw[yb hE,hE];rw[hE] at DO;have DP:Hid (∀ W,Below w.heap.size w W->_):=fun W hW=>zdU a c L W a6 hF (hL.at.below hW)
   have a7:Hid (∀ (B:Nat) (I:World) (K:Nat->Value) (lo hi:Nat->Nat),w.heap.size<=B->CpI B L K lo hi L.length I->SlA (some ⟨B,0,none⟩) L.length L.length/\zbJ X ((I.setCell ⟨B,q*5,none⟩ (.int .i64 D)).setCell ⟨B,q*5+1,none⟩ (.int .i64 th)) (some ⟨B,0,none⟩) (zhQ L q D th)):=fun B I K lo hi b0 h=>by
    have a1:=zhW h.row (k:=q) (f:=0) (u:=.int .i64 D) (v:=K q) (x:={ pt L q with o:=D }) Z (by omega) rfl;have a2:=zhW a1 (k:=q) (f:=1) (u:=.int .i64 th) (v:=K q) (x:={ pt L q with o:=D,t:=th }) (by simpa using Z) (by omega) (by rw[zmh Z];simp only[if_true];rfl);rw[List.set_set] at a2;have oo:zaq (fun b=>b=B) I ((I.setCell ⟨B,q*5,none⟩ (.int .i64 D)).setCell ⟨B,q*5+1,none⟩ (.int .i64 th)):=(zaq.set (X:=fun b=>b=B) _ _ rfl).trans (zaq.set (X:=fun b=>b=B) _ _ rfl);have h1:=h.put (Y:=fun b=>b=B) b0 hF Z a2 (fun i hi=>by simp only[ya hi]) oo (fun b U=>Or.inl (by have:b=B:=U;omega)) (by simp only[if_true];exact h.grs b0 hF oo Z (fun b U=>Or.inl (by have:b=B:=U;have:=(h.at' q Z).1;omega)));unfold zhQ;rw[yi];exact⟨h1.1,zhk hX h1.2⟩
   have OC:Hid (∀ (B:Nat) (I:World) (K:Nat->Value) (lo hi:Nat->Nat),CpI B L K lo hi L.length I->I.cell? ⟨B,q*5,none⟩=some (.int .i64 (pt L q).o)/\I.cell? ⟨B,q*5+1,none⟩=some (.int .i64 (pt L q).t)/\∀ o,I.frozen? ⟨B,o,none⟩=false):=fun B I K lo hi h=>⟨h.cell Z (show 0<5 by omega),h.cell Z (show 1<5 by omega),fun o=>h.row.frozenAt o⟩;have ML:Hid ((zhQ L q D th).length=L.length):=by show _=_;unfold zhQ;simp
   have b3:(q:Int)<(L.length:Int):=by omega
   clear hL hB a5 hF R T hN eT hE;generalize (pt L q).o=xo at *;generalize (pt L q).t=xt at *;generalize zhQ L q D th=M at *;obtain⟨n,hn⟩:∃ z,L.length=z:=⟨_,rfl⟩;rw[hn] at Z b3 a6 DH DP a7 OC ML;rw[hn];clear hn
   go_enter Tryz.func144,Tryz.ntmps144
   go_wp2_with fail
   refine ye DH.out ?_;rintro e O ⟨rfl,b1⟩;have F:Hid (Below w.heap.size w O):=b1;clear b1 DH
   go_wp2_with fail
   refine ye (DO.out _) ?_;rintro e w2 ⟨rfl,J⟩;have a8:=J.symm;clear J;subst a8
   go_wp2_with fail
   refine ye (DP.out _ F.out) ?_;rintro e w2 ⟨K,lo,hi,rfl,b2,hc⟩;obtain⟨x3,x4,fz⟩:=OC.out _ _ _ _ _ hc;have s2:O.heap.size<w2.heap.size:=yd _ _ x3;have FF:Hid _:=a7.out _ _ _ _ _ F.out.size hc;have a9:Hid (Below w.heap.size w ((w2.setCell ⟨O.heap.size,q*5,none⟩ (.int .i64 D)).setCell ⟨O.heap.size,q*5+1,none⟩ (.int .i64 th))):=((F.out.trans (b2.mono F.out.size)).setCell (show w.heap.size<=O.heap.size from F.out.size) _).setCell (show w.heap.size<=O.heap.size from F.out.size) _;clear b2 hc DP a7 OC
   go_wp2_with fail
   exact yv (v:=.tuple #[.slice (some ⟨O.heap.size,0,none⟩) n n,.int .i64 0]) (by simp[results,Tryz.results144,go_sem]) rfl (by first|exact⟨_,n,by rw[ML.out],a9.out,(by rw[ML.out];exact FF.out.1),FF.out.2⟩|exact⟨_,⟨n,by rw[ML.out]⟩,a9.out,(by rw[ML.out];exact FF.out.1),FF.out.2⟩)
  ·rw[ya hE];have y1:decide (zcy Fr D th=0)=false:=decide_eq_false hE;have y2:(zcy Fr D th == 0)=false:=by simp[hE]
   clear hL hB a5 hF R T eT;generalize zcy Fr D th=E at *;generalize L.length=n at *
   go_enter Tryz.func144,Tryz.ntmps144
   go_wp2_with fail
   refine ye DH.out ?_;rintro e O ⟨rfl,U⟩;have F:Hid (Below w.heap.size w O):=U;clear U DH
   go_wp2_with fail
   refine ye (DO.out _) ?_;rintro e w2 ⟨rfl,J⟩;have a8:=J.symm;clear J;subst a8
   go_wp2_with fail
   exact yv (v:=.tuple #[.slice none 0 0,.int .i64 E]) (by simp[results,Tryz.results144,go_sem]) rfl ⟨none,0,rfl,F.out,zda,zbw X _⟩
 ·have eT:zuX (zaT L Fr k o t) (zcy Fr D th)=zaT L Fr k o t:=by unfold zuX;rw[yb T]
  rw[eT,ya T];have y1:decide (zaT L Fr k o t=0)=false:=decide_eq_false T;have y2:(zaT L Fr k o t == 0)=false:=by simp[T]
  clear hL hB a5 DO eT;generalize zaT L Fr k o t=E at *;generalize L.length=n at *
  go_enter Tryz.func144,Tryz.ntmps144
  go_wp2_with fail
  refine ye DH.out ?_;rintro e O ⟨rfl,U⟩;have F:Hid (Below w.heap.size w O):=U;clear U DH
  go_wp2_with fail
  exact yv (v:=.tuple #[.slice none 0 0,.int .i64 E]) (by simp[results,Tryz.results144,go_sem]) rfl ⟨none,0,rfl,F.out,zda,zbw X _⟩
theorem zqy(W:World)(D:List Value)(t:Nat):∀ j u,D[j]?=some u->(W.alloc (.cells D.toArray t)).cell? ((⟨W.heap.size,0,none⟩:Addr).add j)=some u:=fun j u E=>by
 rw[Addr.add_lit,yz];exact zac W D.toArray t j (by simpa using E)
theorem zkE{w w' : World}{b o:Nat}(h:w'.heap[b]?=w.heap[b]?):w'.cell? ⟨b,o,none⟩=w.cell? ⟨b,o,none⟩:=by simp[World.cell?,h]
theorem zmQ{w w' : World}{b o:Nat}(h:w'.heap[b]?=w.heap[b]?):w'.frozen? ⟨b,o,none⟩=w.frozen? ⟨b,o,none⟩:=yC (w:=w) h
theorem zkZ(x:Pt):∀ u ∈ zcQ x (.slice none 0 0),u.oneCell' = true:=fun u D=>by
 unfold zcQ at D;simp at D;rcases D with rfl|rfl|rfl|rfl|rfl <;> rfl
theorem zut(x y:Pt):∀ u ∈ zcQ x (.slice none 0 0)++zcQ y (.slice none 0 0),u.oneCell' = true:=fun u D=>by
 rcases List.mem_append.1 D with h|h
 ·exact zkZ _ u h
 ·exact zkZ _ u h
theorem zuj:zlj:=fun X a c L Fr o t w hX hN hB a6 hL=>by
 have DC:Hid _:=zhS a c L Fr w hN hB a6 hL.at;have DO:Hid (∀ W,_):=fun W=>zgd Fr o t W;by_cases h1:zbd L Fr=0
 ·rw[h1] at DC;have R:=zcH.1 h1;have a7:=R.few;have hF:=zdr R;by_cases I:zcy Fr o t=0
  ·rw[I] at DO
   have F:zfb L Fr o t=if 10<L.length then 1 else 0:=by
    unfold zcy at I;unfold zfb;rw[ya (not_not_intro h1)];by_cases e1:0<=o/\o<Fr
    ·rw[ya (not_not_intro e1)] at I |-;by_cases e2:0<=t/\t<=1000
     ·rw[ya (not_not_intro e2)]
     ·rw[yb e2] at I;cases I
    ·rw[yb e1] at I;cases I
   have c9:IntKind.i64.wrap ((L.length:Int)+2)=(L.length:Int)+2:=by rw[IntKind.wrap_i64];omega
   have b8:IntKind.i64.wrap ((L.length:Int)+1)=(L.length:Int)+1:=by rw[IntKind.wrap_i64];omega
   by_cases b3:10<L.length
   ·rw[yb b3] at F;have er:zmb L Fr o t=[]:=by unfold zmb;rw[F];rfl
    have en:ziD L Fr o t=0:=by unfold ziD;rw[F];rfl
    rw[er,en,F];have hd:decide ((12:Int)<(L.length:Int)+2)=true:=decide_eq_true (by omega);clear hL hB a6 hF R h1 I F er en;generalize L.length=n at *
    go_enter Tryz.func142,Tryz.ntmps142
    go_wp2_with fail
    refine ye DC.out ?_;rintro e Z ⟨rfl,U⟩;have D:Hid (Below w.heap.size w Z):=U;clear U DC
    go_wp2_with fail
    refine ye (DO.out _) ?_;rintro e w9 ⟨rfl,O⟩;have J:=O.symm;clear O;subst J
    go_wp2_with fail
    exact yv (v:=.tuple #[.slice none 0 0,.int .i64 0,.int .i64 1]) (by simp[results,Tryz.results142,go_sem]) rfl ⟨none,0,rfl,D.out,zda,zbw X _⟩
   ·rw[ya b3] at F;have er:zmb L Fr o t=zcx L o t:=by unfold zmb;rw[yb F]
    have en:ziD L Fr o t=(L.length:Int):=by unfold ziD;rw[yb F]
    rw[er,en,F];have hd:decide ((12:Int)<(L.length:Int)+2)=false:=decide_eq_false (by omega);obtain⟨i0,c8,d4,d5,d6⟩:=info_parts zwf;have DP:Hid (∀ W,Below w.heap.size w W->_):=fun W hW=>zdU a c L W a7 hF (hL.at.below hW)
    have b0:Hid (∀ (B:Nat) (W1 w3:World) (K:Nat->Value) (lo hi:Nat->Nat) (v2:Value),w.heap.size<=B->CpI B L K lo hi L.length W1->zaq (fun x=>x=B) W1 w3->w3.ownsRow B 121 5 v2 (L.length+2) (zcb L K++(zcQ ⟨o,t,(L.length:Int)+1,[],false⟩ (.slice none 0 0)++zcQ ⟨o,t,(L.length:Int),[],false⟩ (.slice none 0 0)))->∃ va vc,v2=.slice va (L.length+2) vc/\SlA va (L.length+2) vc/\zbJ X w3 va (zcx L o t)):=fun B W1 w3 K lo hi v2 b6 h ho a5=>by
     rw[<- List.append_assoc,zjC,zjC] at a5;have el:(zcx L o t).length=L.length+2:=by unfold zcx;simp
     have eo:L++[(⟨o,t,(L.length:Int)+1,[],false⟩:Pt)] ++ [⟨o,t,(L.length:Int),[],false⟩]=zcx L o t:=by unfold zcx;simp
     rw[eo] at a5;rw[<- el] at a5 |-
     obtain⟨va,vc,e,hs,hp⟩:=zuw b6 a5 (fun i b7=>by
      rw[el] at b7;by_cases e:i<L.length
      ·have e1:pt (zcx L o t) i=pt L i:=by unfold zcx;exact zlZ e
       rw[e1,List.length_append,List.length_singleton,ya (by omega),ya (by omega)];exact h.grs b6 hF ho e (fun b U=>Or.inl (by have:b=B:=U;have:=(h.at' i e).1;omega))
      ·have hc:(pt (zcx L o t) i).cm=[]:=by
        rw[zfA (by rw[el];exact b7)];unfold zcx;rw[List.getElem_append_right (by omega)];have:i-L.length=0\/i-L.length=1:=by omega
        rcases this with h0|h0
        ·simp[h0]
        ·simp[h0]
       rw[hc]
       have hk:(if i=(L++[(⟨o,t,(L.length:Int)+1,[],false⟩:Pt)]).length then Value.slice none 0 0 else if i=L.length then Value.slice none 0 0 else K i)=.slice none 0 0:=by
        rw[List.length_append,List.length_singleton];by_cases e1:i=L.length
        ·simp[e1]
        ·have:i=L.length+1:=by omega
         simp[this]
       rw[hk];exact fun w' _=>znO.nil w')
     exact⟨va,vc,e,hs,zhk hX hp⟩
    have b9:Hid (∀ K,(zcb L K).length=L.length*5):=fun K=>zbL _ _;have EL:Hid ((zcx L o t).length=L.length+2):=by show _=_;unfold zcx;simp
    clear hL hB a6 hF R h1 I F er en hN;generalize zcx L o t=M at *;have b2:Hid (∀ (B:Nat) (W1:World) (K:Nat->Value) (lo hi:Nat->Nat),CpI B L K lo hi L.length W1->W1.ownsRow B 121 5 (.slice (some ⟨B,0,none⟩) L.length L.length) L.length (zcb L K)):=fun B W1 K lo hi h=>h.row;obtain⟨n,hn⟩:∃ z,L.length=z:=⟨_,rfl⟩;rw[hn] at a7 b3 c9 b8 hd DC DP b0 EL b2;rw[hn];clear hn;have c6:n+2<=maxLen:=by unfold maxLen;omega
    have c7:(n+2)*56<=140737488355328:=by omega
    go_enter Tryz.func142,Tryz.ntmps142
    go_wp2_with fail
    refine ye DC.out ?_;rintro e Z ⟨rfl,U⟩;have D:Hid (Below w.heap.size w Z):=U;clear U DC
    go_wp2_with fail
    refine ye (DO.out _) ?_;rintro e w9 ⟨rfl,O⟩;have J:=O.symm;clear O;subst J
    go_wp2_with fail
    refine ye (DP.out _ D.out) ?_;rintro e w2 ⟨K,lo,hi,rfl,a8,hc⟩;have b4:Hid (Below Z.heap.size Z w2):=a8;have b1:Hid (w2.ownsRow Z.heap.size 121 5 (.slice (some ⟨Z.heap.size,0,none⟩) n n) n (zcb L K)):=b2.out _ _ _ _ _ hc;have FF:Hid (∀ (w3:World) (v2:Value),_->_->_):=fun w3 v2 h1 I=>b0.out _ w2 w3 K lo hi v2 D.out.size hc h1 I;have s2:Z.heap.size<w2.heap.size:=(World.ownsRow.lt b1.out _ rfl).2;clear a8 hc DP b0 b2 b9;generalize zcb L K=cs at *
    go_wp2_with (at_builtin;refine wpList_append_own _ rfl _ _ 26 rfl Z.heap.size 121 i0 (.agg #[.int .i64 0,.int .i64 0,.int .i64 0,.slice none 0 0,.bool false]) 5 56 Tryz.underlying26 c8 d4 d5 d6 rfl (by decide) (.slice (some ⟨Z.heap.size,0,none⟩) n n) n cs rfl (World.ownsRow.alloc b1.out _) ⟨w2.heap.size,0,none⟩ 2 2 (zcQ ⟨o,t,(n:Int)+1,[],false⟩ (.slice none 0 0)++zcQ ⟨o,t,(n:Int),[],false⟩ (.slice none 0 0)) rfl rfl ?c1 ?c2 c6 c7 ?c5 ?_)
    case c1=>first|exact zqy w2 [.int .i64 o,.int .i64 t,.int .i64 ((n:Int)+1),.slice none 0 0,.bool false,.int .i64 o,.int .i64 t,.int .i64 (n:Int),.slice none 0 0,.bool false] _|exact fun j u h=>h
    case c2=>exact zut _ _
    case c5=>first|omega|(simp;omega)
    intro v3 w3 a9 T _;have o3:zaq (fun x=>x=Z.heap.size) w2 w3:=(zaq.of_below (zaa w2 _)).trans (zaq.grown T (fun b U=>by cases U;rfl));obtain⟨va,vc,rfl,hs,hp⟩:=FF.out w3 v3 o3 a9;have b5:Hid (Below w.heap.size w w3):=(D.out.trans ((b4.out.trans ((zaa w2 _).mono b4.out.size)).mono D.out.size)).grown T (by simp;have:=D.out.size;omega) (fun kk hk=>by cases hk;exact D.out.size);have HS:Hid _:=hs;have HP:Hid _:=hp;clear a9 T o3 hs hp FF b1
    go_wp2_with fail
    exact yv (v:=.tuple #[.slice va (n+2) vc,.int .i64 (n:Int),.int .i64 0]) (by simp[results,Tryz.results142,go_sem]) rfl (by first|exact⟨va,vc,by rw[EL.out],b5.out,(by rw[EL.out];exact HS.out),HP.out⟩|exact⟨va,⟨vc,by rw[EL.out]⟩,b5.out,(by rw[EL.out];exact HS.out),HP.out⟩)
  ·have F:zfb L Fr o t=zcy Fr o t:=by
    unfold zcy at I;unfold zfb zcy;rw[ya (not_not_intro h1)];by_cases e1:0<=o/\o<Fr
    ·rw[ya (not_not_intro e1)] at I |-;by_cases e2:0<=t/\t<=1000
     ·rw[ya (not_not_intro e2)] at I;exact absurd rfl I
     ·rw[yb e2,ya (not_not_intro e1),yb e2]
    ·rw[yb e1,yb e1]
   have er:zmb L Fr o t=[]:=by unfold zmb;rw[F,ya I]
   have en:ziD L Fr o t=0:=by unfold ziD;rw[F,ya I]
   rw[er,en,F];have y1:decide (zcy Fr o t=0)=false:=decide_eq_false I;have y2:(zcy Fr o t == 0)=false:=by simp[I]
   clear hL hB a6 hF R h1 F er en;generalize zcy Fr o t=E at *;generalize L.length=n at *
   go_enter Tryz.func142,Tryz.ntmps142
   go_wp2_with fail
   refine ye DC.out ?_;rintro e Z ⟨rfl,U⟩;have D:Hid (Below w.heap.size w Z):=U;clear U DC
   go_wp2_with fail
   refine ye (DO.out _) ?_;rintro e w9 ⟨rfl,O⟩;have J:=O.symm;clear O;subst J
   go_wp2_with fail
   exact yv (v:=.tuple #[.slice none 0 0,.int .i64 0,.int .i64 E]) (by simp[results,Tryz.results142,go_sem]) rfl ⟨none,0,rfl,D.out,zda,zbw X _⟩
 ·have F:zfb L Fr o t=zbd L Fr:=by unfold zfb;rw[yb h1]
  have er:zmb L Fr o t=[]:=by unfold zmb;rw[F,ya h1]
  have en:ziD L Fr o t=0:=by unfold ziD;rw[F,ya h1]
  rw[er,en,F];have y1:decide (zbd L Fr=0)=false:=decide_eq_false h1;have y2:(zbd L Fr == 0)=false:=by simp[h1]
  clear hL hB a6 F er en DO;generalize zbd L Fr=E at *;generalize L.length=n at *
  go_enter Tryz.func142,Tryz.ntmps142
  go_wp2_with fail
  refine ye DC.out ?_;rintro e Z ⟨rfl,U⟩;have D:Hid (Below w.heap.size w Z):=U;clear U DC
  go_wp2_with fail
  exact yv (v:=.tuple #[.slice none 0 0,.int .i64 0,.int .i64 E]) (by simp[results,Tryz.results142,go_sem]) rfl ⟨none,0,rfl,D.out,zda,zbw X _⟩
theorem zuT(F D:Nat)(h:D<=1000):∃ E,(∀ W,(Instr.slice 119 (.slice (some ⟨F,0,none⟩) (D+1) (D+1)) (some (.int .i64 1)) none none).run Tryz.prog W=.ok (.slice (some ⟨F,E,none⟩) D D) W)/\(D=0\/E=1):=by
 by_cases e:D=0
 ·subst e;exact⟨0,fun W=>by go_simp,Or.inl rfl⟩
 ·have h1:¬ ((D:Int)+1=1):=by omega
  have I:(1:Int)<=(D:Int)+1:=by omega
  exact⟨1,fun W=>(by first|(go_simp;done)|(go_simp;intro h;omega)),Or.inr rfl⟩
theorem zuy:zlm:=fun X a c L Fr k o t w hX hN hB a5 hL=>by
 have DH:Hid (∀ o1:Obj,_):=fun o1=>zce a c L Fr k o t (w.alloc o1) hN hB a5 (hL.at.below (zaa _ _));unfold zeL zpb;by_cases hH:zaT L Fr k o t=0
 ·rw[hH] at DH;obtain⟨R,q,rfl,hq,_⟩:=zcm hH;have b0:=R.few;have hF:=zdr R;have e0:(q:Int)<(L.length:Int):=by omega
  obtain⟨b,oo,ea,_,_,_,ca,cc,c3,_,_⟩:=hL.at q hq;subst ea;have e4:b<w.heap.size:=yd _ _ c3;by_cases h0:(pt L q).cm.length=0
  ·have eP:zfe L Fr q o t=8:=by unfold zfe;rw[hH,yi,yb h0];rfl
   rw[eP];rw[h0] at c3;clear hL hB a5 hF R hH eP h0;generalize L.length=n at *
   go_enter Tryz.func146,Tryz.ntmps146
   go_wp2_with fail
   refine ye (DH.out _) ?_;rintro e F ⟨rfl,I⟩;have T:Hid (Below w.heap.size w F):=(zaa _ _).trans (I.mono (by simp));have r1:F.cell? ⟨w.heap.size,0,none⟩=some (.slice none 0 0):=zab (zac w #[.slice none 0 0] 47 0 rfl) I;have f1:F.frozen? ⟨w.heap.size,0,none⟩=false:=(I.frozen (by simp)).trans (by go_simp);have s1:w.heap.size<F.heap.size:=yd _ _ r1;replace c3:=zab c3 T.out;have e5:¬ b=w.heap.size:=by omega
   have e2:¬ w.heap.size=b:=by omega
   clear I DH
   go_wp2_with fail
   have U:Hid (Below w.heap.size w (F.setCell ⟨w.heap.size,0,none⟩ (.slice none 0 0))):=T.out.setCell (by simp) _;exact yv (v:=.tuple #[.slice none 0 0,.agg #[.slice none 0 0],.int .i64 8]) (by simp[results,Tryz.results146,go_sem,r1]) rfl (by first|exact⟨none,0,none,0,rfl,U.out,zda,zbw X _,fun w' _ i hi=>absurd hi (yw _)⟩|exact⟨none,0,none,⟨0,rfl⟩,U.out,zda,zbw X _,fun w' _ i hi=>absurd hi (yw _)⟩|exact⟨none,0,⟨none,0,rfl⟩,U.out,zda,zbw X _,fun w' _ i hi=>absurd hi (yw _)⟩)
  ·have eP:zfe L Fr q o t=0:=by unfold zfe;rw[hH,yi,ya h0];rfl
   rw[eP,yb rfl,yb rfl,yi];obtain⟨O,a8⟩:∃ O,(pt L q).cm.length=O+1:=⟨(pt L q).cm.length-1,by omega⟩;have d4:O<=16:=by have:=(zbm.1 (R.ok q hq)).2.2.2.2.1.1;omega
   rw[a8] at c3;have DP:Hid (∀ W,Below w.heap.size w W->_):=fun W hW=>zdU (some ⟨b,oo,none⟩) c L W b0 hF (hL.at.below hW)
   have b2:Hid (∀ (B:Nat) (Z W3:World) (K:Nat->Value) (lo hi:Nat->Nat) (D o' : Nat) (ga:Option Addr) (gc:Nat) (J:Nat->Value),w.heap.size<=B->CpI B L K lo hi L.length Z->lo q<=D->D<hi q->Z.rowIs D 47 (O+1) J->(∀ i,i<O+1->∃ ga gc,J i=.slice ga (gr (pt L q).cm i).length gc/\St (fun x=>x<=D\/hi q<=x) (fun w=>zaG w ga (gr (pt L q).cm i)) Z)->J 0=.slice ga (gr (pt L q).cm 0).length gc->(O=0\/o' = 1)->zaq (fun x=>x<=B) (Z.setCell ⟨B,q*5+3,none⟩ (.slice (some ⟨D,o', none⟩) O O)) W3->W3.heap[B]?=(Z.setCell ⟨B,q*5+3,none⟩ (.slice (some ⟨D,o', none⟩) O O)).heap[B]?->SlA (some ⟨B,0,none⟩) L.length L.length/\zbJ X W3 (some ⟨B,0,none⟩) (zhU L q)/\ziU X W3 ga (gr (pt L q).cm 0)):=fun B Z W3 K lo hi D o' ga gc J c8 h I a6 b1 b8 c9 a9 b9 c7=>by
    have d8:=(h.at' q hq).1;have ho:zaq (fun x=>x<=B) Z W3:=(zaq.set (X:=fun x=>x<=B) Z _ (yj B)).trans b9;have a1:=zhW h.row (k:=q) (f:=3) (u:=.slice (some ⟨D,o', none⟩) O O) (v:=.slice (some ⟨D,o', none⟩) O O) (x:={ pt L q with cm:=(pt L q).cm.drop 1 }) hq (by omega) rfl;have a2:=zau a1 (w' := W3) (fun kk hk=>by cases hk;exact c7);have hd:((pt L q).cm.drop 1).length=O:=by simp[a8]
    have hx:St (fun x=>x<w.heap.size) (fun w=>znO w (.slice (some ⟨D,o', none⟩) O O) ((pt L q).cm.drop 1)) W3:=fun w' e1=>by
     have h2:zaq (fun x=>x<=B) Z w' := ho.trans (e1.mono (fun x (hx:x<w.heap.size)=>(by show x<=B;omega)));have b4:=b1.of_block (h2.block D b1.lt (by show ¬ D<=B;omega));refine⟨some ⟨D,o', none⟩,O,by rw[hd],⟨(fun e=>by cases e),by rw[hd];exact yj _,by omega⟩,fun i d5=>?_⟩;rw[hd] at d5;obtain⟨b6,b7,e,hs⟩:=b8 (i+1) (by omega);have d9:o' = 1:=by rcases a9 with h|h;omega;exact h
     subst d9;refine⟨D,1,b6,b7,rfl,?_,?_⟩
     ·rw[zoq _ (by omega),Nat.add_comm 1 i,b4.cell (by omega),e]
     ·rw[zoq _ (by omega)];exact(hs.off (h2.mono (fun x (hx:x<=B)=>(by show x<=D\/hi q<=x;omega)))).at
    have h1:=h.put (Y:=fun x=>x<=B) (B0:=w.heap.size) c8 hF hq a2 (fun i hi=>by simp only[ya hi]) ho (fun b hb=>Or.inl hb) (by simp only[if_true];exact hx);refine⟨h1.1,?_,?_⟩
    ·unfold zhU;rw[yi];exact zhk hX h1.2
    ·obtain⟨b6,b7,e,hs⟩:=b8 0 (by omega);rw[c9] at e;simp only[Value.slice.injEq] at e;obtain⟨rfl,_,rfl⟩:=e;exact(hs.off (ho.mono (fun x (hx:x<=B)=>(by show x<=D\/hi q<=x;omega)))).less (fun x hx=>(by show x<=D\/hi q<=x;have:=hX x hx;omega))
   have OC:Hid (∀ (B:Nat) (Z:World) (K:Nat->Value) (lo hi:Nat->Nat),CpI B L K lo hi L.length Z->∃ D J ga gc,Z.cell? ⟨B,q*5+3,none⟩=some (.slice (some ⟨D,0,none⟩) (O+1) (O+1))/\(∀ o,Z.frozen? ⟨B,o,none⟩=false)/\B<D/\lo q<=D/\D<hi q/\Z.cell? ⟨D,0,none⟩=some (.slice ga (gr (pt L q).cm 0).length gc)/\J 0=.slice ga (gr (pt L q).cm 0).length gc/\Hid (Z.rowIs D 47 (O+1) J/\(∀ i,i<O+1->∃ ga gc,J i=.slice ga (gr (pt L q).cm i).length gc/\St (fun x=>x<=D\/hi q<=x) (fun w=>zaG w ga (gr (pt L q).cm i)) Z))):=fun B Z K lo hi h=>by
    obtain⟨D,J,h1,h2,h3,h4,h5⟩:=h.gs q hq;have d8:=(h.at' q hq).1;rw[a8] at h3 h4 h5;obtain⟨ga,gc,e,_⟩:=h5 0 (by omega);refine⟨D,J,ga,gc,?_,fun o=>h.row.frozenAt o,by omega,h1,h2,?_,e,⟨h4,h5⟩⟩
    ·exact(h.cell hq (show 3<5 by omega)).trans (by rw[h3];rfl)
    ·rw[h4.cell (by omega),e]
   have ML:Hid ((zhU L q).length=L.length):=by show _=_;unfold zhU;simp
   clear hL hB a5 hF R hH eP h0 a8 hN;generalize zhU L q=M at *;generalize gr (pt L q).cm 0=G0 at *;obtain⟨n,hn⟩:∃ z,L.length=z:=⟨_,rfl⟩;rw[hn] at hq e0 b0 DH DP b2 OC ML;rw[hn];clear hn
   go_enter Tryz.func146,Tryz.ntmps146
   go_wp2_with fail
   refine ye (DH.out _) ?_;rintro e F ⟨rfl,I⟩;have T:Hid (Below w.heap.size w F):=(zaa _ _).trans (I.mono (by simp));have r1:F.cell? ⟨w.heap.size,0,none⟩=some (.slice none 0 0):=zab (zac w #[.slice none 0 0] 47 0 rfl) I;have f1:F.frozen? ⟨w.heap.size,0,none⟩=false:=(I.frozen (by simp)).trans (by go_simp);have s1:w.heap.size<F.heap.size:=yd _ _ r1;replace c3:=zab c3 T.out;have k1:¬ ((O:Int)+1=0):=by omega
   have k2:decide ((O:Int)+1=0)=false:=decide_eq_false k1;have k3:((O:Int)+1 == 0)=false:=by simp;omega
   clear I DH
   go_wp2_with fail
   refine ye (DP.out _ T.out) ?_;rintro e w2 ⟨K,lo,hi,rfl,a6,hc⟩;obtain⟨D,J,ga,gc,x3,fz,e3,d6,d7,xq,hJ,HR⟩:=OC.out _ _ _ _ _ hc;obtain⟨o', a5,a9⟩:=zuT D O (by omega);have FF:Hid (∀ W3,_->_->_):=fun W3 h1 h2=>b2.out _ w2 W3 K lo hi D o' ga gc J T.out.size hc d6 d7 HR.out.1 HR.out.2 hJ a9 h1 h2;have U:Hid (Below F.heap.size F w2):=a6;replace r1:=zab r1 a6;have f2:w2.frozen? ⟨w.heap.size,0,none⟩=false:=(a6.frozen (show (⟨w.heap.size,0,none⟩:Addr).block<F.heap.size from s1)).trans f1;have s2:F.heap.size<w2.heap.size:=yd _ _ x3;have s3:D<w2.heap.size:=yd _ _ xq;have s4:w.heap.size<w2.heap.size:=yd _ _ r1;have n1:¬ D=F.heap.size:=by omega
   have n2:¬ F.heap.size=D:=by omega
   have n3:¬ w.heap.size=F.heap.size:=by omega
   have n4:¬ F.heap.size=w.heap.size:=by omega
   have n5:¬ w.heap.size=D:=by omega
   have n6:¬ D=w.heap.size:=by omega
   clear a6 hc DP b2 OC hJ HR a9 f1 c3;obtain⟨gl,b3⟩:∃ z,G0.length=z:=⟨_,rfl⟩;have b5:Hid (G0.length=gl):=b3;rw[b3] at xq;clear b3
   go_wp2_with fail
   obtain⟨Y,hY⟩:∃ Y,w2.setCell ⟨F.heap.size,q*5+3,none⟩ (.slice (some ⟨D,o', none⟩) O O)=Y:=⟨_,rfl⟩;have yq:Y.cell? ⟨D,0,none⟩=some (.slice ga gl gc):=by rw[<- hY];exact(zkE (ys _ _ _ _ (by show D≠F.heap.size;omega))).trans xq
   have y1:Y.cell? ⟨w.heap.size,0,none⟩=some (.slice none 0 0):=by rw[<- hY];exact(zkE (ys _ _ _ _ (by show w.heap.size≠F.heap.size;omega))).trans r1
   have yf:Y.frozen? ⟨w.heap.size,0,none⟩=false:=by rw[<- hY];exact(zmQ (ys _ _ _ _ (by show w.heap.size≠F.heap.size;omega))).trans f2
   have BY:Hid (Below w.heap.size w Y):=by rw[<- hY];exact(T.out.trans (U.out.mono T.out.size)).setCell (show w.heap.size<=F.heap.size from T.out.size) _
   rw[hY] at FF |-;have e6:w.heap.size<Y.heap.size:=yd _ _ y1;have e7:D<Y.heap.size:=yd _ _ yq;clear hY x3 fz xq r1 f2 a5
   go_region
   have o9:zaq (fun x=>x<=F.heap.size) Y (Y.setCell ⟨w.heap.size,0,none⟩ (.slice ga gl gc)):=zaq.set (X:=fun x=>x<=F.heap.size) Y _ (Nat.le_of_lt s1);have a7:Hid _:=FF.out _ o9 (ys _ _ _ _ (by show F.heap.size≠w.heap.size;omega));have r9:((Y.setCell ⟨w.heap.size,0,none⟩ (.slice ga gl gc)).drew).cell? ⟨w.heap.size,0,none⟩=some (.slice ga gl gc):=by go_simp
   have P9:Hid (zbJ X (Y.setCell ⟨w.heap.size,0,none⟩ (.slice ga gl gc)).drew (some ⟨F.heap.size,0,none⟩) M):=a7.out.2.1.off ⟨yj _,fun _ _ _=>rfl⟩;have G9:Hid (ziU X (Y.setCell ⟨w.heap.size,0,none⟩ (.slice ga gl gc)).drew ga G0):=a7.out.2.2.off ⟨yj _,fun _ _ _=>rfl⟩;have S9:Hid _:=a7.out.1;have B9:Hid (Below w.heap.size w (Y.setCell ⟨w.heap.size,0,none⟩ (.slice ga gl gc)).drew):=(BY.out.setCell (by simp) _).drew;clear FF a7 o9;obtain⟨w9,c6⟩:∃ w9,(Y.setCell ⟨w.heap.size,0,none⟩ (.slice ga gl gc)).drew=w9:=⟨_,rfl⟩;rw[c6] at r9 P9 G9 B9 |-;clear c6
   go_wp2_with fail
   exact yv (v:=.tuple #[.slice (some ⟨F.heap.size,0,none⟩) n n,.agg #[.slice ga gl gc],.int .i64 0]) (by simp[results,Tryz.results146,go_sem,r9]) rfl (by first|exact⟨_,n,ga,gc,by rw[ML.out,b5.out],B9.out,(by rw[ML.out];exact S9.out),P9.out,G9.out⟩|exact⟨_,⟨n,ga,⟨gc,by rw[ML.out,b5.out]⟩,B9.out,(by rw[ML.out];exact S9.out),P9.out,G9.out⟩⟩)
 ·have eP:zfe L Fr k o t=zaT L Fr k o t:=by unfold zfe;rw[yb hH]
  rw[eP,ya hH,ya hH];have y1:decide (zaT L Fr k o t=0)=false:=decide_eq_false hH;have y2:(zaT L Fr k o t == 0)=false:=by simp[hH]
  clear hL hB a5 eP;generalize zaT L Fr k o t=E at *;generalize L.length=n at *
  go_enter Tryz.func146,Tryz.ntmps146
  go_wp2_with fail
  refine ye (DH.out _) ?_;rintro e F ⟨rfl,I⟩;have T:Hid (Below w.heap.size w F):=(zaa _ _).trans (I.mono (by simp));have r1:F.cell? ⟨w.heap.size,0,none⟩=some (.slice none 0 0):=zab (zac w #[.slice none 0 0] 47 0 rfl) I;have f1:F.frozen? ⟨w.heap.size,0,none⟩=false:=(I.frozen (by simp)).trans (by go_simp);have s1:w.heap.size<F.heap.size:=yd _ _ r1;clear I DH
  go_wp2_with fail
  have U:Hid (Below w.heap.size w (F.setCell ⟨w.heap.size,0,none⟩ (.slice none 0 0))):=T.out.setCell (by simp) _;exact yv (v:=.tuple #[.slice none 0 0,.agg #[.slice none 0 0],.int .i64 E]) (by simp[results,Tryz.results146,go_sem,r1]) rfl (by first|exact⟨none,0,none,0,rfl,U.out,zda,zbw X _,fun w' _ i hi=>absurd hi (yw _)⟩|exact⟨none,0,none,⟨0,rfl⟩,U.out,zda,zbw X _,fun w' _ i hi=>absurd hi (yw _)⟩|exact⟨none,0,⟨none,0,rfl⟩,U.out,zda,zbw X _,fun w' _ i hi=>absurd hi (yw _)⟩)
end Go.Proofs.YtcbcpomacdngmaaGreat
