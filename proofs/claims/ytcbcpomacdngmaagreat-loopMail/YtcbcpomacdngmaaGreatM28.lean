/-
  x
-/
import Derived.Test.YtcbcpomacdngmaaGreatM27
namespace Go.Proofs.YtcbcpomacdngmaaGreat
set_option maxRecDepth 100000
set_option maxHeartbeats 4000000
set_option linter.unusedVariables false
open Go.RowKit Go.ChangeShapes Go.WideShapes
theorem zlo(a:Option Addr)(c:Nat)(L:List Pt)(i:Nat)(Fr:Int)(w:World)(hN:L.length<=12)(hi:i<L.length)(hB:zrF L)(hL:zdr w a L) :
  yL 69 #[.slice a L.length c,.int .i64 (i:Int),.int .i64 Fr] w fun e w' => e=.returned (.int .i64 (zdA L Fr i))/\Below w.heap.size w w' := by
 have HL:Hid (zdr w a L):=hL;obtain⟨b,o,ea,c0,c1,c2,ca,cc,c3,⟨_,hk⟩,c4⟩:=hL i hi;subst ea;obtain⟨a8,a5⟩:=hB i hi;have b4:b<w.heap.size:=yd _ _ c0;have b2:(i:Int)<(L.length:Int):=by omega
 have T:Hid (∀ W,_):=fun W=>zfV (pt L i).o Fr W;have O:Hid (∀ W,_):=fun W=>zkJ (some ⟨b,o,none⟩) L.length c (pt L i).m W (by omega);have U:Hid (∀ W,_):=fun W=>zin (pt L i).t W;have DC:Hid (∀ W,Below w.heap.size w W->_):=fun W hW=>zlk (pt L i) ca cc W a8 a5 (hk.below hW);clear hL hB hk a5;by_cases I:0<=(pt L i).o/\(pt L i).o<Fr
 ·rw[yF I] at T;by_cases J:0<=(pt L i).m/\(pt L i).m<=(L.length:Int)-1
  ·rw[yF J] at O;obtain⟨q,hq⟩:=Int.eq_ofNat_of_zero_le J.1;have b1:q<L.length:=(by omega);have b3:(q:Int)<(L.length:Int):=(by omega);obtain⟨b', o', b0,_,_,d2,_⟩:=HL.out q b1;cases b0
   have Z:Hid (zdA L Fr i=if (q:Int)=i\/(pt L q).m≠i then 3 else if ¬ (0<=(pt L i).t/\(pt L i).t<=1000) then 2 else zsj (pt L i).cm.length (pt L i).s (zbp (pt L i).cm)):=by
    show zdA L Fr i=_;unfold zdA zsj;rw[ya (fun h=>by rcases h with h|h;exact absurd I h;exact absurd J h),hq,yi]
   rw[hq] at c2 O DC;clear J I hq HL;rw[Z.out];clear Z;generalize (pt L q).m=ym at *;by_cases e1:q=i
   ·rw[yb (Or.inl (by omega))];have a9:i=q:=e1.symm;clear e1;subst a9;clear DC U;generalize (pt L i).o=xo at *;generalize (pt L i).t=xt at *;generalize (pt L i).cm.length=cl at *;generalize (pt L i).s=xs at *;generalize L.length=n at *;have y1:((i:Int) ==(i:Int))=true:=by simp
    go_enter Tryz.func69,Tryz.ntmps69
    go_wp2_with fail
    refine ye (T.out _) ?_;rintro e M ⟨rfl,D⟩;have F:=D.symm;clear D;subst F
    go_wp2_with fail
    refine ye (O.out _) ?_;rintro e M ⟨rfl,D⟩;have F:=D.symm;clear D;subst F
    go_wp2_with fail
    go_ret;exact⟨rfl,zaa _ _⟩
   ·have y1:((q:Int) ==(i:Int))=false:=(by simp;omega);have y2:decide ((q:Int)=(i:Int))=false:=yE (by omega);have y3:decide (q=i)=false:=yE e1;by_cases e2:ym=(i:Int)
    ·rw[ya (fun h=>by rcases h with h|h;omega;exact absurd e2 h)];subst e2;by_cases hT:0<=(pt L i).t/\(pt L i).t<=1000
     ·rw[yF hT] at U;rw[ya (yI hT)];clear hT;generalize zsj (pt L i).cm.length (pt L i).s (zbp (pt L i).cm)=E at *;generalize (pt L i).o=xo at *;generalize (pt L i).t=xt at *;generalize (pt L i).cm.length=cl at *;generalize (pt L i).s=xs at *;generalize L.length=n at *
      go_enter Tryz.func69,Tryz.ntmps69
      go_wp2_with fail
      refine ye (T.out _) ?_;rintro e M ⟨rfl,D⟩;have F:=D.symm;clear D;subst F
      go_wp2_with fail
      refine ye (O.out _) ?_;rintro e M ⟨rfl,D⟩;have F:=D.symm;clear D;subst F
      go_wp2_with fail
      refine ye (U.out _) ?_;rintro e M ⟨rfl,D⟩;have F:=D.symm;clear D;subst F
      go_wp2_with fail
      refine ye (DC.out _ (zaa _ _)) ?_;rintro e M ⟨rfl,a6⟩;have a7:Hid (Below w.heap.size w M):=(zaa _ _).trans (a6.mono (by simp));clear a6
      go_wp2_with fail
      go_ret;exact⟨rfl,a7.out⟩
     ·rw[yE hT] at U;rw[yb hT];clear hT DC;generalize (pt L i).o=xo at *;generalize (pt L i).t=xt at *;generalize (pt L i).cm.length=cl at *;generalize (pt L i).s=xs at *;generalize L.length=n at *
      go_enter Tryz.func69,Tryz.ntmps69
      go_wp2_with fail
      refine ye (T.out _) ?_;rintro e M ⟨rfl,D⟩;have F:=D.symm;clear D;subst F
      go_wp2_with fail
      refine ye (O.out _) ?_;rintro e M ⟨rfl,D⟩;have F:=D.symm;clear D;subst F
      go_wp2_with fail
      refine ye (U.out _) ?_;rintro e M ⟨rfl,D⟩;have F:=D.symm;clear D;subst F
      go_wp2_with fail
      go_ret;exact⟨rfl,zaa _ _⟩
    ·rw[yb (Or.inr e2)];have y4:(ym ==(i:Int))=false:=(by simp[e2]);have y5:decide (ym=(i:Int))=false:=yE e2;have y6:(ym !=(i:Int))=true:=(by simp[e2]);clear DC U;generalize (pt L i).o=xo at *;generalize (pt L i).t=xt at *;generalize (pt L i).cm.length=cl at *;generalize (pt L i).s=xs at *;generalize L.length=n at *
     go_enter Tryz.func69,Tryz.ntmps69
     go_wp2_with fail
     refine ye (T.out _) ?_;rintro e M ⟨rfl,D⟩;have F:=D.symm;clear D;subst F
     go_wp2_with fail
     refine ye (O.out _) ?_;rintro e M ⟨rfl,D⟩;have F:=D.symm;clear D;subst F
     go_wp2_with fail
     go_ret;exact⟨rfl,zaa _ _⟩
  ·rw[yE J] at O
   have Z:Hid (zdA L Fr i=4):=by
    show zdA L Fr i=_;unfold zdA;rw[yb (Or.inr J)]
   rw[Z.out];clear Z J I DC U HL;generalize (pt L i).o=xo at *;generalize (pt L i).t=xt at *;generalize (pt L i).m=xm at *;generalize (pt L i).cm.length=cl at *;generalize (pt L i).s=xs at *;generalize L.length=n at *
   go_enter Tryz.func69,Tryz.ntmps69
   go_wp2_with fail
   refine ye (T.out _) ?_;rintro e M ⟨rfl,D⟩;have F:=D.symm;clear D;subst F
   go_wp2_with fail
   refine ye (O.out _) ?_;rintro e M ⟨rfl,D⟩;have F:=D.symm;clear D;subst F
   go_wp2_with fail
   go_ret;exact⟨rfl,zaa _ _⟩
 ·rw[yE I] at T
  have Z:Hid (zdA L Fr i=4):=by
   show zdA L Fr i=_;unfold zdA;rw[yb (Or.inl I)]
  rw[Z.out];clear Z I DC U O HL;generalize (pt L i).o=xo at *;generalize (pt L i).t=xt at *;generalize (pt L i).m=xm at *;generalize (pt L i).cm.length=cl at *;generalize (pt L i).s=xs at *;generalize L.length=n at *
  go_enter Tryz.func69,Tryz.ntmps69
  go_wp2_with fail
  refine ye (T.out _) ?_;rintro e M ⟨rfl,D⟩;have F:=D.symm;clear D;subst F
  go_wp2_with fail
  go_ret;exact⟨rfl,zaa _ _⟩
theorem zhI:zrL:=fun a c L Fr w hN hB a6 hL=>by
 by_cases hm:12<L.length
 ·have e:zbf L Fr=1:=by unfold zbf;rw[yb hm]
  rw[e];have a5:decide ((12:Int)<(L.length:Int))=true:=yF (by omega);clear hL e hB a6;generalize L.length=n at *
  go_enter Tryz.func37,Tryz.ntmps37
  go_wp2_with fail
  go_ret;exact⟨rfl,yk _ _⟩
 ·have e:zbf L Fr=zoG L Fr 0:=by unfold zbf;rw[ya hm]
  rw[e];have a5:decide ((12:Int)<(L.length:Int))=false:=yE (by omega);have D:Hid (∀ i,i<L.length->∀ W,Below w.heap.size w W->_):=fun i hi W hW=>zlo a c L i Fr W (by omega) hi hB (hL.below hW);have ST:Hid (∀ i,i<L.length->zoG L Fr i=if zdA L Fr i=0 then zoG L Fr (i+1) else zdA L Fr i):=fun i hi=>ztT hi;have EN:Hid (zoG L Fr L.length=0):=zwy (yj _);clear hL e hB a6;obtain⟨E,hE⟩:∃ E,zoG L Fr 0=E:=⟨_,rfl⟩;have HE:Hid (zoG L Fr 0=E):=hE;rw[hE];clear hE;obtain⟨n,hn⟩:∃ n,L.length=n:=⟨_,rfl⟩;rw[hn] at hN hm a5 ST EN D |-;clear hn
  go_enter Tryz.func37,Tryz.ntmps37
  go_wp2_with fail
  go_loopg [12] n (fun g s12 wr=>∃ i:Nat,i<=n/\n-i<=g/\s12=.int .i64 i/\Hid (Below w.heap.size w wr)/\Hid (zoG L Fr i=E))
  case atStart=>exact⟨0,by omega,by omega,rfl,yk _ _,HE⟩
  case round =>
   obtain⟨i,hi,hg,rfl,F,I⟩:=hrel;clear HE;by_cases Z:i<n
   ·have a9:(i:Int)<(n:Int):=(by omega);have Di:Hid _:=D.out i Z wr F.out;have a7:=(ST.out i Z).symm.trans I.out;have J:Hid _:=a7;clear a7 I;generalize zdA L Fr i=P at *
    go_wp2_with fail
    refine ye Di.out ?_;rintro e w1 ⟨rfl,U⟩;have O:Hid (Below w.heap.size w w1):=F.out.trans (U.mono F.out.size);clear U Di;by_cases T:P=0
    ·have M:Hid (zoG L Fr (i+1)=E):=(by have:=J.out;rw[yb T] at this;exact this);subst T;clear J
     go_wp2_with fail
     go_roundg (n-(i+1))
     case measure=>omega
     case rel=>exact⟨i+1,by omega,by omega,by go_num,O,M⟩
    ·have M:Hid (P=E):=(by have:=J.out;rw[ya T] at this;exact this);have y1:decide (P=0)=false:=yE T;have y2:(P == 0)=false:=(by simp[T]);clear J
     go_wp2_with fail
     go_ret;exact⟨by rw[M.out];rfl,O.out⟩
   ·have e:i=n:=(by omega);have a8:Hid (0=E):=(by have:=I.out;rw[e,EN.out] at this;exact this);have b0:decide ((i:Int)<(n:Int))=false:=yE (by omega);clear I e
    go_wp2_with fail
    go_ret;exact⟨by rw[a8.out];rfl,F.out⟩
theorem zcf(a:Option Addr)(c:Nat)(L:List Pt)(Fr k o t:Int)(w:World)(hN:L.length<=9223372036854775807)(hB:zrF L)(a5:SlA a L.length c)(hL:zdr w a L) :
  yL 159 #[.slice a L.length c,.int .i64 Fr,.int .i64 k,.int .i64 o,.int .i64 t] w fun e w' => e=.returned (.int .i64 (zaU L Fr k o t))/\Below w.heap.size w w' := by
 have M:Hid _:=zhI a c L Fr w hN hB a5 hL;have HL:Hid (zdr w a L):=hL;clear hL hB a5;unfold zaU;by_cases h1:zbf L Fr=0
 ·rw[ya (yI h1)];rw[h1] at M;have a7:L.length<=12:=(zcH.1 h1).few;have O:Hid (∀ W,_):=fun W=>zkJ a L.length c k W (by omega);by_cases Z:0<=k/\k<(L.length:Int)
  ·rw[ya (yI Z)];rw[yF (show 0<=k/\k<=(L.length:Int)-1 by omega)] at O;obtain⟨q,rfl⟩:=Int.eq_ofNat_of_zero_le Z.1;have hq:q<L.length:=(by omega);have a8:(q:Int)<(L.length:Int):=(by omega);rw[yi];obtain⟨b,oo,ea,c0,c1,c2,ca,cc,c3,a6,c4⟩:=HL.out q hq;subst ea;clear h1 Z a6 c2 c3 HL;generalize pt L q=x at *;obtain⟨xo,xt,xm,xc,xs⟩:=x;dsimp only at c0 c1 c4 |-;by_cases T:xo=o
   ·subst T;by_cases U:xt=t
    ·subst U;rw[ya (by simp)];cases xs
     ·rw[ya (by decide)];generalize L.length=n at *
      go_enter Tryz.func159,Tryz.ntmps159
      go_wp2_with fail
      refine ye M.out ?_;rintro e w1 ⟨rfl,D⟩;have I:Hid (Below w.heap.size w w1):=D;replace c0:=zab c0 D;replace c1:=zab c1 D;replace c4:=zab c4 D;clear D M
      go_wp2_with fail
      refine ye (O.out _) ?_;rintro e w2 ⟨rfl,F⟩;have J:=F.symm;clear F;subst J
      go_wp2_with fail
      go_ret;exact⟨rfl,I.out⟩
     ·rw[yb rfl];generalize L.length=n at *
      go_enter Tryz.func159,Tryz.ntmps159
      go_wp2_with fail
      refine ye M.out ?_;rintro e w1 ⟨rfl,D⟩;have I:Hid (Below w.heap.size w w1):=D;replace c0:=zab c0 D;replace c1:=zab c1 D;replace c4:=zab c4 D;clear D M
      go_wp2_with fail
      refine ye (O.out _) ?_;rintro e w2 ⟨rfl,F⟩;have J:=F.symm;clear F;subst J
      go_wp2_with fail
      go_ret;exact⟨rfl,I.out⟩
    ·rw[yb (Or.inr U)];have y1:decide (xt=t)=false:=yE U;have y2:(xt == t)=false:=(by simp[U]);have y3:(xt != t)=true:=(by simp[U]);generalize L.length=n at *
     go_enter Tryz.func159,Tryz.ntmps159
     go_wp2_with fail
     refine ye M.out ?_;rintro e w1 ⟨rfl,D⟩;have I:Hid (Below w.heap.size w w1):=D;replace c0:=zab c0 D;replace c1:=zab c1 D;replace c4:=zab c4 D;clear D M
     go_wp2_with fail
     refine ye (O.out _) ?_;rintro e w2 ⟨rfl,F⟩;have J:=F.symm;clear F;subst J
     go_wp2_with fail
     go_ret;exact⟨rfl,I.out⟩
   ·rw[yb (Or.inl T)];have y1:decide (xo=o)=false:=yE T;have y2:(xo == o)=false:=(by simp[T]);have y3:(xo != o)=true:=(by simp[T]);generalize L.length=n at *
    go_enter Tryz.func159,Tryz.ntmps159
    go_wp2_with fail
    refine ye M.out ?_;rintro e w1 ⟨rfl,D⟩;have I:Hid (Below w.heap.size w w1):=D;replace c0:=zab c0 D;replace c1:=zab c1 D;replace c4:=zab c4 D;clear D M
    go_wp2_with fail
    refine ye (O.out _) ?_;rintro e w2 ⟨rfl,F⟩;have J:=F.symm;clear F;subst J
    go_wp2_with fail
    go_ret;exact⟨rfl,I.out⟩
  ·rw[yb Z];rw[yE (show ¬ (0<=k/\k<=(L.length:Int)-1) by omega)] at O;clear h1 Z HL;generalize L.length=n at *
   go_enter Tryz.func159,Tryz.ntmps159
   go_wp2_with fail
   refine ye M.out ?_;rintro e w1 ⟨rfl,D⟩;have I:Hid (Below w.heap.size w w1):=D;clear D M
   go_wp2_with fail
   refine ye (O.out _) ?_;rintro e w2 ⟨rfl,F⟩;have J:=F.symm;clear F;subst J
   go_wp2_with fail
   go_ret;exact⟨rfl,I.out⟩
 ·rw[yb h1];have y1:decide (zbf L Fr=0)=false:=yE h1;have y2:(zbf L Fr == 0)=false:=by simp[h1]
  clear HL;generalize zbf L Fr=E at *;generalize L.length=n at *
  go_enter Tryz.func159,Tryz.ntmps159
  go_wp2_with fail
  refine ye M.out ?_;rintro e w1 ⟨rfl,D⟩;have I:Hid (Below w.heap.size w w1):=D;clear D M
  go_wp2_with fail
  go_ret;exact⟨rfl,I.out⟩
theorem zdw{L:List Pt}{Fr:Int}(R:zds L Fr):zxe L:=fun i hi=>by
 obtain⟨_,_,_,_,h5,E⟩:=zbm.1 (R.ok i hi);have hg:=zcj.1 E;exact⟨by omega,fun j D=>⟨by have:=(hg j D).few;omega,fun m F=>by have:=(hg j D).kids8 m F;omega⟩⟩
theorem zue{B0 B:Nat}(h0:B0<=B){w:World}{v:Value}{M:List Pt}{K:Nat->Value}(row:w.ownsRow B 121 5 v M.length (zcc M K))(hg:∀ i,i<M.length->St (fun x=>x<B0) (fun w=>zrH w (K i) (pt M i).cm) w) :
  ∃ a c,v=.slice a M.length c/\SlA a M.length c/\St (fun x=>x<B0) (fun w=>zdr w a M) w:=by
 have D:∀ w', zar (fun x=>x<B0) w w' -> ∃ a c,v=.slice a M.length c/\zdr w' a M:=fun w' F =>
  zuf (zaJ row (fun j J=>F.block j (row.lt j J).2 (by show ¬ j<B0;have:=(row.lt j J).1;omega))) (fun i hi=>hg i hi w' F)
 obtain⟨a,c,e,_⟩:=D w (zar.refl _ w);refine⟨a,c,e,?_,fun w' F=>?_⟩
 ·rcases row.2 with ⟨E,hn⟩ |⟨g,cap,O,E,_,_,h1,T,_⟩
  ·rw[e] at E;simp only[Value.slice.injEq] at E;obtain⟨rfl,_,rfl⟩:=E;exact⟨fun _=>rfl,by omega,by omega⟩
  ·rw[e] at E;cases E;exact⟨(fun h=>by cases h),h1,by unfold maxLen at T;omega⟩
 ·obtain⟨Z,c', I,U⟩:=D w' F;rw[e] at I;cases I;exact U
theorem CpI.grs{B B0:Nat}{L:List Pt}{K:Nat->Value}{lo hi:Nat->Nat}{w E:World}{Y:Nat->Prop}(h:CpI B L K lo hi L.length w)(h0:B0<=B)(F:zxe L)(o:zar Y w E){i:Nat}(D:i<L.length)(I:∀ b,Y b->b<lo i\/hi i<=b):St (fun x=>x<B0) (fun w=>zrH w (K i) (pt L i).cm) E:=fun w' M =>
 (((h.gs i D).off o I).off M (fun b J=>Or.inl (by have:b<B0:=J;have:=(h.at' i D).1;omega))).grs (F i D).1
theorem CpI.put{B B0:Nat}{L:List Pt}{K I:Nat->Value}{lo hi:Nat->Nat}{w F:World}{Y:Nat->Prop}{q:Nat}{x:Pt}(h:CpI B L K lo hi L.length w)(h0:B0<=B)(U:zxe L)(hq:q<L.length)
  (row:F.ownsRow B 121 5 (.slice (some ⟨B,0,none⟩) L.length L.length) L.length (zcc (L.set q x) I)) (hK:∀ i,i≠q->I i=K i) (o:zar Y w F) (Z:∀ b,Y b->b<=B\/(lo q<=b/\b<hi q)) (hx:St (fun x=>x<B0) (fun w=>zrH w (I q) x.cm) F) :
  SlA (some ⟨B,0,none⟩) L.length L.length/\St (fun x=>x<B0) (fun w=>zdr w (some ⟨B,0,none⟩) (L.set q x)) F:=by
 have J:(L.set q x).length=L.length:=List.length_set;have E:F.ownsRow B 121 5 (.slice (some ⟨B,0,none⟩) L.length L.length) (L.set q x).length (zcc (L.set q x) I):=by rw[J];exact row
 obtain⟨a,c,e,hs,hp⟩:=zue h0 E (fun i D=>by
  rw[J] at D;by_cases e:i=q
  ·subst e;rw[zlV D];exact hx
  ·rw[zkS D,ya (fun M=>e M.symm),hK i e];refine h.grs h0 U o D (fun b hb=>?_);have h1:=(h.at' i D).1;rcases Z b hb with O|O
   ·exact Or.inl (by omega)
   ·rcases h.ap i q D hq e with T|T
    ·exact Or.inr (by omega)
    ·exact Or.inl (by omega))
 rw[J] at e hs;cases e;exact⟨hs,hp⟩
theorem CpI.cell{B:Nat}{L:List Pt}{K:Nat->Value}{lo hi:Nat->Nat}{w:World}(h:CpI B L K lo hi L.length w){k f:Nat}(E:k<L.length)(D:f<5):w.cell? ⟨B,k*5+f,none⟩=(zcS (pt L k) (K k))[f]?:=zus h.row rfl E D
theorem zhc{X:Nat->Prop}{B0:Nat}{w:World}{a:Option Addr}{M:List Pt}(D:∀ b,X b->b<B0)(h:St (fun x=>x<B0) (fun w=>zdr w a M) w):zbN X w a M:=h.less D
theorem zbz(X:Nat->Prop)(w:World):zbN X w none []:=fun w' _=>zwF w'
theorem zdb:SlA none ([]:List Pt).length 0:=⟨fun _=>rfl,yj _,by omega⟩
theorem zuw:zvc:=fun X a c L Fr k o t w hX hN hB U hL=>by
 have Z:Hid _:=zcf a c L Fr k o t w hN hB U hL.at;unfold zhQ;by_cases I:zaU L Fr k o t=0
 ·rw[yb I,I];rw[I] at Z;obtain⟨R,q,rfl,T,_⟩:=zcm I;have J:=R.few;have hF:=zdw R;have DP:Hid (∀ W,Below w.heap.size w W->_):=fun W hW=>zdX a c L W J hF (hL.at.below hW)
  have O:Hid (∀ (B:Nat) (F:World) (K:Nat->Value) (lo hi:Nat->Nat),w.heap.size<=B->CpI B L K lo hi L.length F->SlA (some ⟨B,0,none⟩) L.length L.length/\zbN X ((F.setCell ⟨B,q*5+4,none⟩ (.bool true)).setCell ⟨B,q*5+3,none⟩ (.slice none 0 0)) (some ⟨B,0,none⟩) (zhS L q)):=fun B F K lo hi a8 h=>by
   have a1:=zhR h.row (k:=q) (f:=4) (u:=.bool true) (v:=K q) (x:={ pt L q with s:=true }) T (by omega) rfl;have a2:=zhR a1 (k:=q) (f:=3) (u:=.slice none 0 0) (v:=.slice none 0 0) (x:={ pt L q with s:=true,cm:=[] }) (by simpa using T) (by omega) (by rw[zlV T];simp only[if_true];rfl);rw[List.set_set] at a2;have h1:=h.put (Y:=fun b=>b=B) a8 hF T a2 (fun i hi=>by simp only[ya hi]) ((zar.set (X:=fun b=>b=B) _ _ rfl).trans (zar.set (X:=fun b=>b=B) _ _ rfl)) (fun b hb=>Or.inl (by have:b=B:=hb;omega)) (fun w' _=>by simp only[if_true];exact zrH.nil w');unfold zhS;rw[yi];exact⟨h1.1,zhc hX h1.2⟩
  have OC:Hid (∀ (B:Nat) (F:World) (K:Nat->Value) (lo hi:Nat->Nat),CpI B L K lo hi L.length F->F.cell? ⟨B,q*5+3,none⟩=some (K q)/\F.cell? ⟨B,q*5+4,none⟩=some (.bool (pt L q).s)/\∀ o,F.frozen? ⟨B,o,none⟩=false):=fun B F K lo hi h=>⟨h.cell T (show 3<5 by omega),h.cell T (show 4<5 by omega),fun o=>h.row.frozenAt o⟩;have ML:Hid ((zhS L q).length=L.length):=by show _=_;unfold zhS;simp
  have a9:(q:Int)<(L.length:Int):=by omega
  clear hL hB U hF R I hN;generalize (pt L q).s=xs at *;generalize zhS L q=M at *;obtain⟨n,hn⟩:∃ z,L.length=z:=⟨_,rfl⟩;rw[hn] at T a9 J Z DP O OC ML;rw[hn];clear hn
  go_enter Tryz.func147,Tryz.ntmps147
  go_wp2_with fail
  refine ye Z.out ?_;rintro e w1 ⟨rfl,a6⟩;have D:Hid (Below w.heap.size w w1):=a6;clear a6 Z
  go_wp2_with fail
  refine ye (DP.out _ D.out) ?_;rintro e w2 ⟨K,lo,hi,rfl,a7,hc⟩;obtain⟨x3,x4,fz⟩:=OC.out _ _ _ _ _ hc;have s2:w1.heap.size<w2.heap.size:=yd _ _ x3;have FF:Hid _:=O.out _ _ _ _ _ D.out.size hc;have a5:Hid (Below w.heap.size w ((w2.setCell ⟨w1.heap.size,q*5+4,none⟩ (.bool true)).setCell ⟨w1.heap.size,q*5+3,none⟩ (.slice none 0 0))):=((D.out.trans (a7.mono D.out.size)).setCell (show w.heap.size<=w1.heap.size from D.out.size) _).setCell (show w.heap.size<=w1.heap.size from D.out.size) _;clear a7 hc DP O OC;generalize K q=kq at *
  go_wp2_with fail
  exact yv (v:=.tuple #[.slice (some ⟨w1.heap.size,0,none⟩) n n,.int .i64 0]) (by simp[results,Tryz.results147,go_sem]) rfl (by first|exact⟨_,n,by rw[ML.out],a5.out,(by rw[ML.out];exact FF.out.1),FF.out.2⟩|exact⟨_,⟨n,by rw[ML.out]⟩,a5.out,(by rw[ML.out];exact FF.out.1),FF.out.2⟩)
 ·rw[ya I];have y1:decide (zaU L Fr k o t=0)=false:=yE I;have y2:(zaU L Fr k o t == 0)=false:=by simp[I]
  clear hL hB U;generalize zaU L Fr k o t=E at *;generalize L.length=n at *
  go_enter Tryz.func147,Tryz.ntmps147
  go_wp2_with fail
  refine ye Z.out ?_;rintro e w1 ⟨rfl,hb⟩;have D:Hid (Below w.heap.size w w1):=hb;clear hb Z
  go_wp2_with fail
  exact yv (v:=.tuple #[.slice none 0 0,.int .i64 E]) (by simp[results,Tryz.results147,go_sem]) rfl ⟨none,0,rfl,D.out,zdb,zbz X _⟩
theorem ztU:zuZ:=fun X a c L Fr k o t D th w hX hN hB Z hL=>by
 have DH:Hid _:=zcf a c L Fr k o t w hN hB Z hL.at;have DO:Hid (∀ W,_):=fun W=>zfT Fr D th W;unfold zhN;rw[ztV];by_cases O:zaU L Fr k o t=0
 ·have eT:zuI (zaU L Fr k o t) (zcu Fr D th)=zcu Fr D th:=by unfold zuI;rw[O];simp
  rw[eT];rw[O] at DH;obtain⟨R,q,rfl,U,_⟩:=zcm O;have a5:=R.few;have hF:=zdw R;by_cases hE:zcu Fr D th=0
  ·rw[yb hE,hE];rw[hE] at DO;have DP:Hid (∀ W,Below w.heap.size w W->_):=fun W hW=>zdX a c L W a5 hF (hL.at.below hW)
   have a6:Hid (∀ (B:Nat) (I:World) (K:Nat->Value) (lo hi:Nat->Nat),w.heap.size<=B->CpI B L K lo hi L.length I->SlA (some ⟨B,0,none⟩) L.length L.length/\zbN X ((I.setCell ⟨B,q*5,none⟩ (.int .i64 D)).setCell ⟨B,q*5+1,none⟩ (.int .i64 th)) (some ⟨B,0,none⟩) (zhG L q D th)):=fun B I K lo hi a9 h=>by
    have a1:=zhR h.row (k:=q) (f:=0) (u:=.int .i64 D) (v:=K q) (x:={ pt L q with o:=D }) U (by omega) rfl;have a2:=zhR a1 (k:=q) (f:=1) (u:=.int .i64 th) (v:=K q) (x:={ pt L q with o:=D,t:=th }) (by simpa using U) (by omega) (by rw[zlV U];simp only[if_true];rfl);rw[List.set_set] at a2;have oo:zar (fun b=>b=B) I ((I.setCell ⟨B,q*5,none⟩ (.int .i64 D)).setCell ⟨B,q*5+1,none⟩ (.int .i64 th)):=(zar.set (X:=fun b=>b=B) _ _ rfl).trans (zar.set (X:=fun b=>b=B) _ _ rfl);have h1:=h.put (Y:=fun b=>b=B) a9 hF U a2 (fun i hi=>by simp only[ya hi]) oo (fun b T=>Or.inl (by have:b=B:=T;omega)) (by simp only[if_true];exact h.grs a9 hF oo U (fun b T=>Or.inl (by have:b=B:=T;have:=(h.at' q U).1;omega)));unfold zhG;rw[yi];exact⟨h1.1,zhc hX h1.2⟩
   have OC:Hid (∀ (B:Nat) (I:World) (K:Nat->Value) (lo hi:Nat->Nat),CpI B L K lo hi L.length I->I.cell? ⟨B,q*5,none⟩=some (.int .i64 (pt L q).o)/\I.cell? ⟨B,q*5+1,none⟩=some (.int .i64 (pt L q).t)/\∀ o,I.frozen? ⟨B,o,none⟩=false):=fun B I K lo hi h=>⟨h.cell U (show 0<5 by omega),h.cell U (show 1<5 by omega),fun o=>h.row.frozenAt o⟩;have ML:Hid ((zhG L q D th).length=L.length):=(by show _=_;unfold zhG;simp);have b2:(q:Int)<(L.length:Int):=(by omega);clear hL hB Z hF R O hN eT hE;generalize (pt L q).o=xo at *;generalize (pt L q).t=xt at *;generalize zhG L q D th=M at *;obtain⟨n,hn⟩:∃ z,L.length=z:=⟨_,rfl⟩;rw[hn] at U b2 a5 DH DP a6 OC ML;rw[hn];clear hn
   go_enter Tryz.func144,Tryz.ntmps144
   go_wp2_with fail
   refine ye DH.out ?_;rintro e w1 ⟨rfl,b0⟩;have F:Hid (Below w.heap.size w w1):=b0;clear b0 DH
   go_wp2_with fail
   refine ye (DO.out _) ?_;rintro e w2 ⟨rfl,J⟩;have a7:=J.symm;clear J;subst a7
   go_wp2_with fail
   refine ye (DP.out _ F.out) ?_;rintro e w2 ⟨K,lo,hi,rfl,b1,hc⟩;obtain⟨x3,x4,fz⟩:=OC.out _ _ _ _ _ hc;have s2:w1.heap.size<w2.heap.size:=yd _ _ x3;have FF:Hid _:=a6.out _ _ _ _ _ F.out.size hc;have a8:Hid (Below w.heap.size w ((w2.setCell ⟨w1.heap.size,q*5,none⟩ (.int .i64 D)).setCell ⟨w1.heap.size,q*5+1,none⟩ (.int .i64 th))):=((F.out.trans (b1.mono F.out.size)).setCell (show w.heap.size<=w1.heap.size from F.out.size) _).setCell (show w.heap.size<=w1.heap.size from F.out.size) _;clear b1 hc DP a6 OC
   go_wp2_with fail
   exact yv (v:=.tuple #[.slice (some ⟨w1.heap.size,0,none⟩) n n,.int .i64 0]) (by simp[results,Tryz.results144,go_sem]) rfl (by first|exact⟨_,n,by rw[ML.out],a8.out,(by rw[ML.out];exact FF.out.1),FF.out.2⟩|exact⟨_,⟨n,by rw[ML.out]⟩,a8.out,(by rw[ML.out];exact FF.out.1),FF.out.2⟩)
  ·rw[ya hE];have y1:decide (zcu Fr D th=0)=false:=yE hE;have y2:(zcu Fr D th == 0)=false:=(by simp[hE]);clear hL hB Z hF R O eT;generalize zcu Fr D th=E at *;generalize L.length=n at *
   go_enter Tryz.func144,Tryz.ntmps144
   go_wp2_with fail
   refine ye DH.out ?_;rintro e w1 ⟨rfl,T⟩;have F:Hid (Below w.heap.size w w1):=T;clear T DH
   go_wp2_with fail
   refine ye (DO.out _) ?_;rintro e w2 ⟨rfl,J⟩;have a7:=J.symm;clear J;subst a7
   go_wp2_with fail
   exact yv (v:=.tuple #[.slice none 0 0,.int .i64 E]) (by simp[results,Tryz.results144,go_sem]) rfl ⟨none,0,rfl,F.out,zdb,zbz X _⟩
 ·have eT:zuI (zaU L Fr k o t) (zcu Fr D th)=zaU L Fr k o t:=by unfold zuI;rw[yb O]
  rw[eT,ya O];have y1:decide (zaU L Fr k o t=0)=false:=yE O;have y2:(zaU L Fr k o t == 0)=false:=by simp[O]
  clear hL hB Z DO eT;generalize zaU L Fr k o t=E at *;generalize L.length=n at *
  go_enter Tryz.func144,Tryz.ntmps144
  go_wp2_with fail
  refine ye DH.out ?_;rintro e w1 ⟨rfl,T⟩;have F:Hid (Below w.heap.size w w1):=T;clear T DH
  go_wp2_with fail
  exact yv (v:=.tuple #[.slice none 0 0,.int .i64 E]) (by simp[results,Tryz.results144,go_sem]) rfl ⟨none,0,rfl,F.out,zdb,zbz X _⟩
end Go.Proofs.YtcbcpomacdngmaaGreat
