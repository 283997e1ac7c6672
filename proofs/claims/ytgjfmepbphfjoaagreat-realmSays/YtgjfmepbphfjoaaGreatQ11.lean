/-
  x
-/
import Derived.Test.YtgjfmepbphfjoaaGreatQ10
namespace Go.Proofs.YtgjfmepbphfjoaaGreat
set_option maxRecDepth 100000
set_option maxHeartbeats 4000000
set_option linter.unusedVariables false
open Go.RowKit
def znn(K:Nat)(A:Array Value)(p:Nd->Bool)(w:World):Prop :=
 ∀ (x:Nd) (k:Value) (D:World),Below w.heap.size w D->Calls Tryz.prog K (#[.agg #[.bool x.u,.int .i64 x.n,.int .i64 x.t,.int .i64 x.m,.int .i64 x.p,k,.int .i64 x.h,.bool x.c]] ++ A) D fun e w2=>e=.returned (.bool (p x))/\Below D.heap.size D w2
theorem zgt(K:Nat)(F:Array Value)(p:Nd->Bool)(a:Option Addr)(c:Nat)(S:List Nd)(w:World)(Z:S.length<=9223372036854775807)(V:zae w a S)
  (eg:∀ args w,(callFunc K args).run Tryz.prog w=.ok (.enter K args) w) (hf:znn K F p w) :
  Calls Tryz.prog 122 #[.slice a S.length c,.func (.func K) #[] F] w fun e w' => ∃ r:Int,e=.returned (.int .i64 r)/\Below w.heap.size w w' /\
   ((r = -1/\∀ i,i<S.length->p (nd S i)=false)\/(∃ k:Nat,k<S.length/\r=k/\p (nd S k)=true/\∀ i,i<k->p (nd S i)=false)):=by
 have HS:Hid (zae w a S):=V;have HF:Hid (znn K F p w):=hf;clear V hf;generalize hn:S.length=n at *;have HN:Hid _:=hn;clear hn
 go_enter Tryz.func122,Tryz.ntmps122
 go_wp2
 go_loopg [8] n (fun g s8 wr=>∃ k:Nat,k<=n/\n-k<=g/\s8=.int .i64 k/\Below w.heap.size w wr/\Hid (∀ i,i<k->p (nd S i)=false))
 case atStart=>exact⟨0,by omega,by omega,rfl,yj _ _,fun i hi=>by omega⟩
 case round =>
  obtain⟨k,hk,hg,rfl,I,A⟩:=hrel;by_cases M:k<n
  ·have a4:(k:Int)<(n:Int):=by omega
   obtain⟨b,o,rfl,c0,c1,c2,c3,c4,⟨ka,kc,c5,_⟩,T,U⟩:=(HS.out.below I) k (by rw[HN.out];exact M);have D:=fun v=>HF.out (nd S k) v wr I
   cases hq:p (nd S k) with
   | true =>
    have O:Hid (p (nd S k)=true):=hq;rw[hq] at D;clear hq;generalize hx:nd S k=x at D c0 c1 c2 c3 c4 c5 T U;clear hx
    go_wp2_with (go_at_fn K;refine(D _).mono ?_;rintro e w' ⟨rfl,J⟩)
    go_ret;exact⟨k,rfl,I.trans (J.mono I.size),Or.inr ⟨k,M,rfl,O.out,A.out⟩⟩
   | false =>
    have O:Hid (p (nd S k)=false):=hq;rw[hq] at D;clear hq;generalize hx:nd S k=x at D c0 c1 c2 c3 c4 c5 T U;clear hx
    go_wp2_with (go_at_fn K;refine(D _).mono ?_;rintro e w' ⟨rfl,J⟩)
    go_roundg (n-(k+1))
    case measure=>omega
    case rel =>
     refine⟨k+1,by omega,by omega,by go_num,I.trans (J.mono I.size),(show Hid _ from fun i hi=>?_)⟩;by_cases e:i=k
     ·subst e;exact O.out
     ·exact A.out i (by omega)
  ·have:k=n:=by omega
   subst this
   go_wp2
   go_ret;exact⟨-1,rfl,I,Or.inl ⟨rfl,A.out⟩⟩
def zdq(S:List Nd)(x:Int):Bool:=S.any fun n=>decide (n.h=x)
theorem zch{S:List Nd}{x:Int}:zdq S x=false↔∀ i,i<S.length->(nd S i).h≠x:=by
 unfold zdq;rw[List.any_eq_false];constructor
 ·intro H i w e;have:=H (nd S i) (by rw[zaJ w];exact List.getElem_mem w);simp[e] at this
 ·intro H y hy;obtain⟨i,w,rfl⟩:=List.getElem_of_mem hy;have:=H i w;rw[zaJ w] at this;simpa using this
theorem zky(x:Nd)(k:Value)(q:Nat)(y:Int)(w:World)(hq:w.cell? ⟨q,0,none⟩=some (.int .i64 y)) :
  Calls Tryz.prog 136 #[.agg #[.bool x.u,.int .i64 x.n,.int .i64 x.t,.int .i64 x.m,.int .i64 x.p,k,.int .i64 x.h,.bool x.c],.pointer (some ⟨q,0,none⟩)] w fun e w' => e=.returned (.bool (decide (x.h=y)))/\Below w.heap.size w w' := by
 obtain⟨u,n,t,m,p,ks,h,c⟩:=x;dsimp only;have A:=ye _ _ hq;by_cases e:h=y
 ·subst e;rw[decide_eq_true rfl]
  go_enter Tryz.func136,Tryz.ntmps136
  go_wp2
  go_ret;exact⟨rfl,(yj _ _).alloc (yi _) _⟩
 ·rw[decide_eq_false e];have e2:(h == y)=false:=by simpa using e
  go_enter Tryz.func136,Tryz.ntmps136
  go_wp2
  go_ret;exact⟨rfl,(yj _ _).alloc (yi _) _⟩
def zbw(S:List Nd)(x:Int):Int:=if x = -1 then -1 else (match S.findIdx? fun n=>decide (n.h=x) with|some k=>(k:Int)|none=>-1)
theorem zhx{S:List Nd}{x:Int}{k:Nat}(hx:x≠-1)(w:k<S.length)(h:(nd S k).h=x)(A:∀ i,i<k->(nd S i).h≠x):zbw S x=k:=by
 unfold zbw
 rw[ya hx,show S.findIdx? (fun n=>decide (n.h=x))=some k from List.findIdx?_eq_some_iff_getElem.2 ⟨w,by rw[<- zaJ w];exact decide_eq_true h,fun j D=>by
  have:=A j D;rw[zaJ (by omega)] at this;simpa using this⟩]
theorem zfI{S:List Nd}{x:Int}(h:∀ i,i<S.length->(nd S i).h≠x):zbw S x = -1:=by
 unfold zbw;by_cases hx:x = -1
 ·rw[yd hx]
 rw[ya hx,show S.findIdx? (fun n=>decide (n.h=x))=none from List.findIdx?_eq_none_iff.2 (fun y hy=>by
  obtain⟨i,w,rfl⟩:=List.getElem_of_mem hy;have:=h i w;rw[zaJ w] at this;simpa using this)]
theorem zmO{S:List Nd}{x:Int}(hx:x≠-1):decide (zbw S x = -1) = !zdq S x:=by
 cases hb:zdq S x with
 | false=>rw[zfI (zch.1 hb)];rfl
 | true =>
  have w:zbw S x≠-1:=by
   intro h;unfold zbw at h;rw[ya hx] at h
   split at h
   ·omega
   ·next hn =>
    have:=List.findIdx?_eq_none_iff.1 hn;unfold zdq at hb;obtain⟨y,hy,A⟩:=List.any_eq_true.1 hb;rw[this y hy] at A;cases A
  rw[decide_eq_false w];rfl
theorem zcL(a:Option Addr)(c:Nat)(S:List Nd)(x:Int)(w:World)(hN:S.length<=9223372036854775807)(I:zae w a S) :
  Calls Tryz.prog 124 #[.agg #[.slice a S.length c],.int .i64 x] w fun e w' => e=.returned (.int .i64 (zbw S x))/\Below w.heap.size w w' := by
 have Z:Hid (zae w a S):=I;by_cases hx:x = -1
 ·have hr:zbw S x = -1:=by unfold zbw;rw[yd hx]
  rw[hr];subst hx;clear I hr;generalize S.length=n at *
  go_enter Tryz.func124,Tryz.ntmps124
  go_wp2
  go_ret;exact⟨rfl,((yj _ _).alloc (yi _) _).alloc (by simp) _⟩
 ·have V:∀ F:World,F.cell? ⟨w.heap.size+1,0,none⟩=some (.int .i64 x)->znn 136 #[.pointer (some ⟨w.heap.size+1,0,none⟩)] (fun n=>decide (n.h=x)) F:=fun F h1 y k w2 M =>
   zky y k (w.heap.size+1) x w2 ((M.cell (ye F _ h1)).trans h1)
  have D:Hid (∀ (W:World),zae W a S->W.cell? ⟨w.heap.size+1,0,none⟩=some (.int .i64 x)->Calls _ _ _ _ _):=fun W h1 h2=>zgt 136 #[.pointer (some ⟨w.heap.size+1,0,none⟩)] (fun n=>decide (n.h=x)) a c S W hN h1 (enters_of Tryz.func136 (by kernel_rfl) rfl) (V W h2);have H1:Hid (∀ k,k<S.length->decide ((nd S k).h=x)=true->(∀ i,i<k->decide ((nd S i).h=x)=false)->zbw S x=k):=fun k U h O=>zhx hx U (of_decide_eq_true h) (fun i T=>of_decide_eq_false (O i T));have H2:Hid ((∀ i,i<S.length->decide ((nd S i).h=x)=false)->zbw S x = -1):=fun h=>zfI (fun i T=>of_decide_eq_false (h i T));have hx2:(x == -1)=false:=by simpa using hx
  clear I V
  go_enter Tryz.func124,Tryz.ntmps124
  go_wp2_with (first
   |(go_at_call 122;refine(D.out _ (Z.out.below (((yj _ _).alloc (yi _) _).alloc (by simp) _)) (by go_simp)).mono ?_;rintro e F ⟨r,rfl,J,hr⟩)
   | go_in)
  go_ret;refine⟨?_,(((yj _ _).alloc (yi _) _).alloc (by simp) _).trans (J.mono (by simp;omega))⟩;rcases hr with ⟨rfl,A⟩ |⟨k,U,rfl,hp,O⟩
  ·rw[H2.out A];rfl
  ·rw[H1.out k U hp O];rfl
theorem zdr(a:Option Addr)(c:Nat)(S:List Nd)(x:Int)(w:World)(M:S.length<=9223372036854775807)(J:zae w a S)(hx:x≠-1) :
  Calls Tryz.prog 104 #[.agg #[.slice a S.length c],.int .i64 x] w fun e w' => e=.returned (.bool (zdq S x))/\Below w.heap.size w w' := by
 have D:Hid (∀ (W:World),zae W a S->Calls _ _ _ _ _):=fun W O=>zcL a c S x W M O;have I:Hid (zae w a S):=J;have hr:=zmO (S:=S) hx;clear J hx;generalize S.length=n at *;generalize zbw S x=r at *
 cases hb:zdq S x with
 | true =>
  rw[hb] at hr;have F:(r == -1)=false:=by simpa using hr
  clear hr hb
  go_enter Tryz.func104,Tryz.ntmps104
  go_wp2_with (go_at_call 124;refine(D.out _ (I.out.below ((yj _ _).alloc (yi _) _))).mono ?_;rintro e T ⟨rfl,A⟩)
  go_ret;refine⟨?_,((yj _ _).alloc (yi _) _).trans (A.mono (by simp))⟩;show Ending.returned (.bool (r != -1))=_;simp[bne,F]
 | false =>
  rw[hb] at hr;have F:r = -1:=by simpa using hr
  subst F;clear hr hb
  go_enter Tryz.func104,Tryz.ntmps104
  go_wp2_with (go_at_call 124;refine(D.out _ (I.out.below ((yj _ _).alloc (yi _) _))).mono ?_;rintro e T ⟨rfl,A⟩)
  go_ret;exact⟨rfl,((yj _ _).alloc (yi _) _).trans (A.mono (by simp))⟩
theorem zgW(a:Option Addr)(c:Nat)(S:List Nd)(w:World)(hn:S.length<=9223372036854775807)(F:zae w a S)(A:S.any zbO=false) :
  Calls Tryz.prog 122 #[.slice a S.length c,.func (.func 123) #[] #[]] w fun e w' => e=.returned (.int .i64 (-1))/\Below w.heap.size w w' :=
 (zgt 123 #[] zbO a c S w hn F (enters_of Tryz.func123 (by kernel_rfl) rfl) (fun x k M _=>zhi x k M)).mono (fun e w' ⟨r,e1,I,hr⟩=>by
  rcases hr with ⟨rfl,_⟩ |⟨k,D,_,J,_⟩
  ·exact⟨e1,I⟩
  ·have:=List.any_eq_false.1 A (nd S k) (by rw[zaJ D];exact List.getElem_mem D);exact absurd J this)
def zcH(S:List Nd)(t:Int):Int:=if zaD S=0 then (if 0<=t/\t<=99 then (if S.any zbO then 0 else 1) else 2) else zaD S
theorem zlQ{S:List Nd}(h:S.any zbO=true):∃ k,k<S.length/\zbO (nd S k)=true/\∀ i,i<k->zbO (nd S i)=false:=by
 obtain⟨x,hx,D⟩:=List.any_eq_true.1 h;obtain⟨i,F,rfl⟩:=List.getElem_of_mem hx;rw[<- zaJ F] at D;clear hx h
 induction i using Nat.strongRecOn with
 | ind i I =>
  by_cases hex:∃ j,j<i/\zbO (nd S j)=true
  ·obtain⟨j,A,w⟩:=hex;exact I j A (by omega) w
  ·refine⟨i,F,D,fun j A=>?_⟩
   cases hq:zbO (nd S j) with
   | false=>rfl
   | true=>exact absurd ⟨j,A,hq⟩ hex
theorem zlf(a:Option Addr)(c:Nat)(S:List Nd)(t E:Int)(w:World)(hN:S.length<=9223372036854775807)(hB:Big S)(hS:zae w a S)(F:zcH S t=E)(I:E≠0) :
  Calls Tryz.prog 101 #[.agg #[.slice a S.length c],.int .i64 t] w fun e w' => e=.returned (.tuple #[.agg #[.slice none 0 0],.agg #[.int .i64 0,.int .i64 0],.int .i64 E])/\Below w.heap.size w w' := by
 have d0:=fun W hW=>zdn a c S W hN hB hW;have HS:Hid (zae w a S):=hS;unfold zcH at F;by_cases U:zaD S=0
 ·rw[yd U] at F;rw[U] at d0;have D0:Hid _:=d0;by_cases ht:0<=t/\t<=99
  ·rw[yd ht] at F
   cases hf:S.any zbO with
   | true=>rw[hf] at F;exact absurd F.symm I
   | false =>
    rw[hf,ya (by simp)] at F;have DF:Hid (∀ W,zae W a S->Calls _ _ _ _ _):=fun W hW=>zgW a c S W hN hW hf;obtain⟨a6,a7⟩:=ht;subst F;clear hS d0 hB U hf I;generalize S.length=n at *
    go_enter Tryz.func101,Tryz.ntmps101
    go_wp2_with (go_at_call 20;refine(D0.out _ (HS.out.below (zal _ _ _ _))).mono ?_;rintro e w0 ⟨rfl,A⟩;simp only[yk] at A;obtain⟨l0,M,O,T,z1,z2,z3⟩:=zbU A;have D:Below w.heap.size w w0:=(zal _ _ _ _).trans (A.mono (by omega)))
    go_wp2_with (go_at_call 54;refine(zdz _ _ _ _ (by omega) (by omega)).mono ?_;rintro e w' ⟨rfl,rfl⟩)
    refine(DF.out _ (HS.out.below D)).mono ?_;rintro e w1 ⟨rfl,J⟩;have a4:=A.size;simp only[yk] at a4;have Z:=A.trans (J.mono a4);have V:Below w.heap.size w w1:=(zal _ _ _ _).trans (Z.mono (by omega));clear l0 M O T z1 z2 z3 A J D;obtain⟨l0,M,O,T,z1,z2,z3⟩:=zbU Z
    go_wp2
    refine yq (v:=.tuple #[.agg #[.slice none 0 0],.agg #[.int .i64 0,.int .i64 0],.int .i64 1]) (by simp[results,Tryz.results101,go_sem,M,O,T]) rfl ⟨rfl,?_⟩
    first|exact((V.setCell (by simp) _).setCell (by simp;omega) _).setCell (by simp;omega) _|exact(((V.setCell (by simp) _).setCell (by simp;omega) _).setCell (by simp;omega) _).drew
  ·rw[ya ht] at F;have a5:t<0\/99<t:=by omega
   subst F;clear hS d0 hB U ht I;generalize S.length=n at *
   go_enter Tryz.func101,Tryz.ntmps101
   go_wp2_with (go_at_call 20;refine(D0.out _ (HS.out.below (zal _ _ _ _))).mono ?_;rintro e w0 ⟨rfl,A⟩;simp only[yk] at A;obtain⟨l0,M,O,T,z1,z2,z3⟩:=zbU A;have D:Below w.heap.size w w0:=(zal _ _ _ _).trans (A.mono (by omega)))
   go_wp2_with (go_at_call 54;refine(zfx _ _ _ _ a5).mono ?_;rintro e w' ⟨rfl,rfl⟩)
   refine yq (v:=.tuple #[.agg #[.slice none 0 0],.agg #[.int .i64 0,.int .i64 0],.int .i64 2]) (by simp[results,Tryz.results101,go_sem,M,O,T]) rfl ⟨rfl,?_⟩
   first|exact((D.setCell (by simp) _).setCell (by simp;omega) _).setCell (by simp;omega) _|exact(((D.setCell (by simp) _).setCell (by simp;omega) _).setCell (by simp;omega) _).drew
 ·rw[ya U] at F;rw[F] at d0;have D0:Hid _:=d0;have hz:(E == 0)=false:=by simp[I]
  clear hS d0 F hB U;generalize S.length=n at *
  go_enter Tryz.func101,Tryz.ntmps101
  go_wp2_with (go_at_call 20;refine(D0.out _ (HS.out.below (zal _ _ _ _))).mono ?_;rintro e w0 ⟨rfl,A⟩;simp only[yk] at A;obtain⟨l0,M,O,T,z1,z2,z3⟩:=zbU A;have D:Below w.heap.size w w0:=(zal _ _ _ _).trans (A.mono (by omega)))
  refine yq (v:=.tuple #[.agg #[.slice none 0 0],.agg #[.int .i64 0,.int .i64 0],.int .i64 E]) (by simp[results,Tryz.results101,go_sem,M,O,T]) rfl ⟨rfl,?_⟩
  first|exact((D.setCell (by simp) _).setCell (by simp;omega) _).setCell (by simp;omega) _|exact(((D.setCell (by simp) _).setCell (by simp;omega) _).setCell (by simp;omega) _).drew
theorem WF.ringless{S:List Nd}(h:WF S){x j:Nat}(hx:x<S.length)(h1:1<=j):¬ Up S j x x:=fun w =>
 h.no_ring hx h1 (by have:=h.up_short hx w;omega) w
theorem WF.leaveG{S:List Nd}(h:WF S){ch:Nat}(hch:ch<S.length):WF (leaveG S ch):=by
 unfold Go.Proofs.YtgjfmepbphfjoaaGreat.leaveG;split
 ·exact h
 ·rename_i w;obtain⟨A,e,_⟩:=h.parent_place hch w;rw[e,yg];exact h.leave hch e
theorem zeH(S:List Nd)(ch j:Nat):(nd (leaveG S ch) j).u=(nd S j).u/\(nd (leaveG S ch) j).n=(nd S j).n/\(nd (leaveG S ch) j).h=(nd S j).h/\(nd (leaveG S ch) j).t=(nd S j).t/\(nd (leaveG S ch) j).m=(nd S j).m/\(nd (leaveG S ch) j).c=(nd S j).c:=by
 unfold leaveG;split
 ·exact⟨rfl,rfl,rfl,rfl,rfl,rfl⟩
 ·exact zeW S _ ch j
theorem zeG(S:List Nd){ch j:Nat}(w:j<S.length):(nd (leaveG S ch) j).p=if j=ch then -1 else (nd S j).p:=by
 unfold leaveG;split
 ·rename_i h;split
  ·rename_i e;rw[e];exact h
  ·rfl
 ·exact zfE S w
theorem zon{S:List Nd}(h:WF S){ch j:Nat}(hch:ch<S.length)(A:j<S.length)(D:(nd S ch).p≠j):(nd (leaveG S ch) j).ks=(nd S j).ks:=by
 unfold leaveG;split
 ·rfl
 ·rename_i F;obtain⟨I,e,_,w,_⟩:=h.parent_place hch F;rw[e,yg,zgg S w A,ya (by omega)]
theorem ziT{S:List Nd}{A ch:Nat}(hpa:A<S.length)(D:zbm S A ch=false):zbm (leaveG S ch) A ch=false:=by
 cases hb:zbm (leaveG S ch) A ch with
 | false=>rfl
 | true =>
  have hl:=zaF S ch;obtain⟨j,I,F,J⟩:=zdO (by rw[hl];exact hpa) hb;rw[hl] at F
  have:Up S j A ch:=zio hl (fun y hy z w=>by
   unfold zah at *;rw[(zeH S ch y).2.2.1,zeG S hy] at w;by_cases e1:y=ch
   ·subst e1;rw[yd rfl] at w;by_cases hh:(nd S y).h = -1
    ·rw[yd hh] at w;omega
    ·rw[ya hh] at w |-;exact w
   ·rw[ya e1] at w;exact w) hpa J
  rw[ziq hpa I F this] at D;cases D
theorem zdp{S:List Nd}{ch w:Nat}(h:zef S ch w=true):(nd S ch).h = -1/\w≠ch/\zbm S w ch=false:=by
 unfold zef at h;simp only[Bool.and_eq_true,Bool.not_eq_true', decide_eq_true_eq,decide_eq_false_iff_not] at h;exact⟨h.1,fun e=>h.2.1 (by rw[e]),h.2.2⟩
structure znj (S:List Nd) (pa ch:Nat):Prop where
 wf:WF S
 hpa:pa<S.length
 hch:ch<S.length
 hpu:(nd S pa).u=true
 hcu:(nd S ch).u=true
 fits:zef S ch pa=true
theorem znj.insert{S:List Nd}{w ch:Nat}(h:znj S w ch)(at' : Nat):WF (zaQ (leaveG S ch) w ch at'):=by
 obtain⟨f1,f2,f3⟩:=zdp h.fits;have hl:=zaF S ch;refine(h.wf.leaveG h.hch).enter (by rw[hl];exact h.hpa) (by rw[hl];exact h.hch) ?_ ?_ ?_ ?_ f2 (ziT h.hpa f3)
 ·rw[(zeH S ch w).1];exact h.hpu
 ·rw[(zeH S ch ch).1];exact h.hcu
 ·rw[zeG S h.hch,yd rfl]
 ·rw[(zeH S ch ch).2.2.1];exact f1
theorem zfS{S A:List Nd}:∀ {f p:Nat},(∀ y ∈ zaw S f p,(nd A y.toNat).ks=(nd S y.toNat).ks)->zaw A f p=zaw S f p
 | 0,_,_=>rfl
 | f+1,p,h=>by
  have D:(nd A p).ks=(nd S p).ks:=by
   have:=h (p:Int) (by simp[zaw]);simpa using this
  simp only[zaw,D]
  congr 1
  have:∀ l:List Int,(∀ k ∈ l,k ∈ (nd S p).ks)->l.flatMap (fun k=>zaw A f k.toNat)=l.flatMap (fun k=>zaw S f k.toNat):=by
   intro l
   induction l with
   | nil=>intro _;rfl
   | cons k l F =>
    intro w
    rw[List.flatMap_cons,List.flatMap_cons,F (fun x hx=>w x (by simp[hx])),zfS (fun y hy=>h y (by
     simp only[zaw,List.mem_cons,List.mem_flatMap];exact Or.inr ⟨k,w k (by simp),hy⟩))]
  exact this _ (fun _ w=>w)
theorem znj.order{S:List Nd}{F ch:Nat}(h:znj S F ch)(at' : Nat):zan (zaQ (leaveG S ch) F ch at') ch=zan S ch:=by
 obtain⟨f1,f2,f3⟩:=zdp h.fits;have hl:=zaF S ch;unfold zan;rw[zaE,hl];refine zfS (fun y hy=>?_);obtain⟨q,rfl,hq,_,j,_,w⟩:=zcc h.wf h.hch (h.wf.deep_all h.hch) y hy;rw[yg,zdF _ f2 (by rw[hl];exact hq),ya,zon h.wf h.hch hq]
 ·intro e;obtain⟨I,J,A,_,D,_⟩:=h.wf.parent_place h.hch (by omega);have:I=q:=by omega
  subst this;obtain⟨k,M,_,_,_,hr⟩:=h.wf.kid A D;have:k=ch:=by omega
  subst this;exact h.wf.ringless h.hch (j:=1+j) (by omega) ((WF.up_one A hr).trans w)
 ·rintro rfl
  cases j with
  | zero=>exact f2 w
  | succ j =>
   rw[ziq hq (by omega) (by have:=h.wf.up_short hq w;omega) w] at f3;cases f3
theorem zss{ks:List Int}{v:Int}(h:v ∈ ks):∃ k:Nat,idx ks v=k/\k<ks.length/\ks.getD k 0=v:=by
 refine⟨ks.idxOf v,by unfold idx;rw[yd h],List.idxOf_lt_length_of_mem h,?_⟩;rw[zaf ks 0 (List.idxOf_lt_length_of_mem h)];exact List.getElem_idxOf (List.idxOf_lt_length_of_mem h)
theorem znj.kids{S:List Nd}{w ch:Nat}(h:znj S w ch)(at' : Nat):(nd (zaQ (leaveG S ch) w ch at') w).ks=ins (nd (leaveG S ch) w).ks at' ch/\(ch:Int) ∉ (nd (leaveG S ch) w).ks:=by
 obtain⟨f1,f2,f3⟩:=zdp h.fits;have hl:=zaF S ch;refine⟨by rw[zdF _ f2 (by rw[hl];exact h.hpa),yd rfl],(h.wf.leaveG h.hch).not_kid (by rw[zeG S h.hch,yd rfl]) (by rw[hl];exact h.hpa)⟩
theorem znj.ahead{S:List Nd}{w ch q:Nat}(h:znj S w ch)(hq:q<S.length)(D:(nd S q).p=w)(A:q≠ch):∃ at' : Nat,idx (nd (leaveG S ch) w).ks q=at' /\ at' < (nd (leaveG S ch) w).ks.length/\(nd (leaveG S ch) w).ks.getD at' 0=q:=by
 have hl:=zaF S ch;have:=(h.wf.leaveG h.hch).in_kids (k:=q) (y:=w) (by rw[hl];exact hq) (by rw[zeG S hq,ya A];exact D);exact zss this.2
theorem WF.kids_small{S:List Nd}(h:WF S){i:Nat}(w:i<S.length):(nd S i).ks.length<=24:=by
 have h1:=h.kids_nodup w
 have:=h1.length_le_of_subset (l₂:=(List.range S.length).map (fun k:Nat=>(k:Int))) (fun x hx=>by
  obtain⟨k,rfl,A,_⟩:=h.kid w hx;exact List.mem_map.2 ⟨k,List.mem_range.2 A,rfl⟩)
 rw[List.length_map,List.length_range] at this;exact yx this h.small
theorem WF.big{S:List Nd}(h:WF S):Big S:=fun _ w=>yx (h.kids_small w) (by omega)
theorem zhl{S:List Nd}{k:Nat}{u:Int}(A:k<S.length)(D:(nd S k).u=true)(hn:(nd S k).n=u)(h:WF S):zco S k u=0:=by
 have h1:=(zbc (h.node k A)).1;have w:=(zbc (h.node k A)).2.2;unfold zcy at w;rw[yd D] at w;unfold zbV at h1;simp only[Bool.and_eq_true,decide_eq_true_eq] at h1;have F:(nd S k).n≠0:=fun e=>by rw[yd e] at w;cases w
 unfold zco;rw[yd (show zeY S.length (k:Int)=true from decide_eq_true ⟨by omega,by omega⟩),yg];unfold zoe;rw[yd (decide_eq_true ⟨by omega,by omega⟩),yd D,yd hn]
theorem zjz{S:List Nd}{k:Nat}{u:Int}(w:k<S.length)(A:(nd S k).u=true)(hn:(nd S k).n=u)(h:WF S):zar S [((k:Int),u)]=0:=by
 unfold zar;rw[yd ((zdy S).2 h),ziM];exact zhl w A hn h
def zcg(x:Nd):Nd:=⟨false,x.n,0,0,-1,[],-1,false⟩
def zdS(S:List Nd)(k:Nat):Prop:=zah (nd S k) = -1/\(nd S k).ks=[]/\zdq S k=false
theorem WF.like{S A:List Nd}(h:WF S)(hl:A.length=S.length)(hn:∀ i,i<S.length->zba S.length (nd A i)=0)
  (hs:∀ i,i<S.length->(nd A i).p=(nd S i).p/\(nd A i).ks=(nd S i).ks/\(nd A i).h=(nd S i).h)
  (T:∀ i,i<S.length->(nd S i).u=true->(nd A i).u=true\/∀ j,j<S.length->(i:Int) ∉ (nd S j).ks/\(nd S j).h≠i):WF A:=by
 refine⟨by rw[hl];exact h.small,fun i w=>by rw[hl] at w |-;exact hn i w,zel (fun i w=>?_) (fun i w x hx=>?_) (fun j I D=>?_),fun i w=>?_,fun i w=>?_⟩
 ·rw[hl] at w;rw[(hs i w).2.1];exact h.kids_nodup w
 ·rw[hl] at w |-;rw[(hs i w).2.1] at hx;obtain⟨k,rfl,J,k2,k3,_⟩:=h.kid w hx;refine⟨k,rfl,J,?_,by rw[(hs k J).1];exact k3⟩;rcases T k J k2 with g|g
  ·exact g
  ·exact absurd hx (g i w).1
 ·rw[hl] at I |-;rw[(hs j I).1] at D;obtain⟨i,i1,V,_,i3,_⟩:=h.parent_place I D;exact⟨i,V,by rw[(hs i V).2.1];exact i3⟩
 ·rw[hl] at w;intro hh;rw[(hs i w).2.2] at hh |-;obtain⟨M,g2⟩:=h.hosts i w hh;have O:=(zeI (zeJ (h.node i w))).2.1;obtain⟨q,hq⟩:∃ q:Nat,(nd S i).h=(q:Int):=⟨(nd S i).h.toNat,by omega⟩;refine⟨?_,fun U F=>by rw[(hs U (by omega)).2.2];exact g2 U F⟩;rw[hq,yg] at M |-;rcases T q (by omega) M with g|g
  ·exact g
  ·exact absurd hq (g i w).2
 ·rw[hl] at w
  cases O:zbm A i i with
  | false=>rfl
  | true =>
   obtain⟨j,j1,Z,j3⟩:=zdO (by rw[hl];exact w) O;rw[hl] at Z;exact absurd (zio hl (fun y hy z e=>by unfold zah at e |-;rw[(hs y hy).1,(hs y hy).2.2] at e;exact e) w j3) (h.no_ring w j1 Z)
theorem WF.unused{S:List Nd}(h:WF S){k:Nat}(A:k<S.length)(D:(nd S k).u=false):(nd S k).t=0/\(nd S k).m=0/\(nd S k).p = -1/\(nd S k).ks=[]/\(nd S k).h = -1/\(nd S k).c=false:=by
 have w:=(zbc (h.node k A)).2.2;unfold zcy at w;rw[D] at w;exact of_decide_eq_true w
theorem WF.uses{S:List Nd}(h:WF S){k:Nat}(A:k<S.length):0<=(nd S k).n/\(nd S k).n<=1000000/\((nd S k).u=true->1<=(nd S k).n):=by
 obtain⟨h1,_,w⟩:=zbc (h.node k A);unfold zbV at h1;simp only[Bool.and_eq_true,decide_eq_true_eq] at h1;refine⟨h1.1.1,h1.1.2,fun D=>?_⟩;unfold zcy at w;rw[yd D] at w;by_cases e:(nd S k).n=0
 ·rw[yd e] at w;cases w
 ·have:=h1.1.1;omega
theorem zeB{x:Nd}(h:zbO x=true):x.u=false/\x.n<1000000:=by
 unfold zbO at h;simpa using h
theorem WF.make{S:List Nd}(h:WF S){k:Nat}{t:Int}(w:k<S.length)(M:zbO (nd S k)=true)(F:0<=t)(I:t<=99):WF (S.set k (zbq (nd S k) t)):=by
 obtain⟨O,hn⟩:=zeB M;obtain⟨q1,J,q3,q4,Z,q6⟩:=h.unused w O;obtain⟨n0,n1,_⟩:=h.uses w;refine h.like (by simp) (fun i A=>?_) (fun i A=>?_) (fun i A D=>?_)
 ·rw[zay S k i _ w];split
  ·rename_i e;subst e;obtain⟨r1,r2,r3⟩:=zbc (h.node i A);obtain⟨T,U,V⟩:=zci r2;refine zen ?_ (zdb T U V) ?_
   ·unfold zbV zbq;simp only[Bool.and_eq_true,decide_eq_true_eq];exact⟨⟨by omega,by omega⟩,⟨F,I⟩,by rw[J];omega,by rw[J];omega⟩
   ·unfold zcy zbq;simp only[if_true];rw[ya (by omega),yd Z,q6];rfl
  ·exact h.node i A
 ·rw[zay S k i _ w];split
  ·rename_i e;subst e;exact⟨rfl,rfl,rfl⟩
  ·exact⟨rfl,rfl,rfl⟩
 ·rw[zay S k i _ w];split
  ·exact Or.inl rfl
  ·exact Or.inl D
theorem zkk{S:List Nd}{k:Nat}(h:zdS S k):(nd S k).p = -1/\(nd S k).h = -1/\(nd S k).ks=[]/\∀ j,j<S.length->(nd S j).h≠k:=by
 obtain⟨h1,w,A⟩:=h;unfold zah at h1;by_cases e:(nd S k).h = -1
 ·rw[yd e] at h1;exact⟨h1,e,w,zch.1 A⟩
 ·rw[ya e] at h1;exact absurd h1 e
theorem WF.free{S:List Nd}(h:WF S){k:Nat}(w:k<S.length)(O:zdS S k):WF (S.set k (zcg (nd S k))):=by
 obtain⟨J,hh,F,M⟩:=zkk O;obtain⟨n0,T,_⟩:=h.uses w;refine h.like (by simp) (fun i A=>?_) (fun i A=>?_) (fun i A D=>?_)
 ·rw[zay S k i _ w];split
  ·rename_i e;subst e;refine zen ?_ (zdb ?_ ?_ (fun y hy=>absurd hy (by simp[zcg]))) ?_
   ·unfold zbV zcg;simp only[Bool.and_eq_true,decide_eq_true_eq];exact⟨⟨n0,T⟩,by omega,by omega⟩
   ·unfold zcg zdT;exact decide_eq_true ⟨by dsimp only;omega,by dsimp only;omega⟩
   ·unfold zcg zdT;exact decide_eq_true ⟨by dsimp only;omega,by dsimp only;omega⟩
   ·unfold zcy zcg;simp
  ·exact h.node i A
 ·rw[zay S k i _ w];split
  ·rename_i e;subst e;exact⟨J.symm,F.symm,hh.symm⟩
  ·exact⟨rfl,rfl,rfl⟩
 ·by_cases e:i=k
  ·subst e;exact Or.inr (fun j I=>⟨h.not_kid J I,M j I⟩)
  ·rw[zay S k i _ w,ya e];exact Or.inl D
theorem zsA(n:Nat)(hn:n<=24):WF (List.replicate n zaL):=by
 have hnd:∀ i,i<n->nd (List.replicate n zaL) i=zaL:=fun i w=>zem n i _ w;have hl:(List.replicate n zaL).length=n:=by simp
 refine⟨by rw[hl];exact hn,fun i w=>?_,zel (fun i w=>?_) (fun i w x hx=>?_) (fun j D A=>?_),fun i w=>?_,fun i w=>?_⟩
 ·rw[hl] at w |-;rw[hnd i w];refine zen (by decide) (zdb ?_ ?_ (fun y hy=>absurd hy (by simp[zaL]))) (by decide)
  ·unfold zaL zdT;exact decide_eq_true ⟨by dsimp only;omega,by dsimp only;omega⟩
  ·unfold zaL zdT;exact decide_eq_true ⟨by dsimp only;omega,by dsimp only;omega⟩
 ·rw[hl] at w;rw[hnd i w];exact List.nodup_nil
 ·rw[hl] at w;rw[hnd i w] at hx;cases hx
 ·rw[hl] at D;rw[hnd j D] at A;exact absurd rfl A
 ·rw[hl] at w;intro hh;rw[hnd i w] at hh;exact absurd rfl hh
 ·cases hb:zbm (List.replicate n zaL) i i with
  | false=>rfl
  | true =>
   obtain⟨j,M,O,J⟩:=zdO w hb;obtain⟨I,rfl⟩:∃ I,j=I+1:=⟨j-1,by omega⟩;obtain⟨z,_,F,_⟩:=J;rw[hl] at w;rw[hnd i w] at F;have:(-1:Int)=(z:Int):=F;omega
end Go.Proofs.YtgjfmepbphfjoaaGreat
