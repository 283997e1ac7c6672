/-
  x
-/
import Derived.Test.YtgjfmepbphfjoaaGreatQ3
import Derived.Laws.EntriesVeiled
namespace Go.Proofs.YtgjfmepbphfjoaaGreat
set_option maxRecDepth 100000
set_option maxHeartbeats 4000000
set_option linter.unusedVariables false
open Go.RowKit
def zoe(x:Nd)(u:Int):Int:=if decide (1<=u/\u<=x.n) then (if x.u then (if x.n=u then 0 else 5) else 5) else 4
def zco(S:List Nd)(p u:Int):Int:=if zeY S.length p then zoe (nd S p.toNat) u else 4
theorem zej{w A:World}{v:Value}{p u:Int}(D:Below (w.heap.size+1+1) ((w.alloc (.cells #[v] 24)).alloc (.cells #[.int .i64 p,.int .i64 u] 39)) A) :
  A.cell? ⟨w.heap.size,0,none⟩=some v/\A.cell? ⟨w.heap.size+1,0,none⟩=some (.int .i64 p)/\A.cell? ⟨w.heap.size+1,1,none⟩=some (.int .i64 u)/\Below w.heap.size w A :=
 ⟨(D.cell (by simp;omega)).trans (by go_simp),(D.cell (by simp)).trans (by go_simp),(D.cell (by simp)).trans (by go_simp),(((yj _ _).alloc (yi _) _).alloc (by simp) _).trans (D.mono (by omega))⟩
theorem zgq(a:Option Addr)(c:Nat)(S:List Nd)(p u:Int)(w:World)(hN:S.length<=9223372036854775807)(hS:zae w a S) :
  Calls Tryz.prog 25 #[.agg #[.slice a S.length c],.agg #[.int .i64 p,.int .i64 u]] w fun e w' => e=.returned (.int .i64 (zco S p u))/\Below w.heap.size w w' := by
 unfold zco;have d1:=fun W=>zeV a c S.length p W hN
 cases hq:zeY S.length p with
 | false =>
  rw[hq] at d1;simp only[Bool.false_eq_true,if_false];generalize S.length=n at *;clear hS
  go_enter Tryz.func25,Tryz.ntmps25
  go_wp2_with (go_at_call 74;refine(d1 _).mono ?_;rintro e w' ⟨rfl,D⟩)
  go_ret;simp only[yk] at D;exact⟨rfl,(zej D).2.2.2⟩
 | true =>
  rw[hq] at d1;simp only[if_true];have a4:0<=p/\p<=(S.length:Int)-1:=of_decide_eq_true hq;clear hq;obtain⟨k,rfl⟩:∃ k:Nat,p=(k:Int):=⟨p.toNat,by omega⟩;have hk:k<S.length:=by omega
  have a7:(k:Int)<(S.length:Int):=by omega
  simp only[yg];obtain⟨b,o,rfl,hnd⟩:=hS k hk;have V:Hid (∀ A,Below w.heap.size w A->zpq A b (o+k*8) (nd S k)):=fun A h1=>hnd.below h1;clear hS a4 hnd;generalize nd S k=x at *;unfold zoe;obtain⟨xu,xn,xt,xm,xp,a5,xh,xc⟩:=x;unfold zpq at V;dsimp only at *;generalize a5.length=kl at *;generalize S.length=n at *;have d2:=zbf u 1 xn;generalize Z:decide (1<=u/\u<=xn)=b1 at *;have B1:Hid (decide (1<=u/\u<=xn)=b1):=Z;clear Z
  cases b1 with
  | false =>
   simp only[Bool.false_eq_true,if_false]
   go_enter Tryz.func25,Tryz.ntmps25
   go_wp2_with (first|(go_at_call 74;refine(d1 _).mono ?_;rintro e A ⟨rfl,D⟩;simp only[yk] at D;obtain⟨T,U,l2,F⟩:=zej D;obtain⟨c0,c1,c2,c3,c4,⟨ka,kc,c5,_⟩,c6,c7⟩:=V.out _ F;have O:=ye A _ c0;have J:=ye A _ U;have M:=ye A _ T;have I:Hid _:=F;clear D F)|(go_at_call 54;refine(d2 _).mono ?_;rintro e w' ⟨rfl,rfl⟩))
   go_ret;exact⟨rfl,I.out.alloc I.out.size _⟩
  | true =>
   simp only[if_true]
   cases xu with
   | false =>
    simp only[Bool.false_eq_true,if_false]
    go_enter Tryz.func25,Tryz.ntmps25
    go_wp2_with (first|(go_at_call 74;refine(d1 _).mono ?_;rintro e A ⟨rfl,D⟩;simp only[yk] at D;obtain⟨T,U,l2,F⟩:=zej D;obtain⟨c0,c1,c2,c3,c4,⟨ka,kc,c5,_⟩,c6,c7⟩:=V.out _ F;have O:=ye A _ c0;have J:=ye A _ U;have M:=ye A _ T;have I:Hid _:=F;clear D F)|(go_at_call 54;refine(d2 _).mono ?_;rintro e w' ⟨rfl,rfl⟩))
    go_ret;exact⟨rfl,I.out.alloc I.out.size _⟩
   | true =>
    simp only[if_true];by_cases he:xn=u
    ·subst he;simp only[if_true]
     go_enter Tryz.func25,Tryz.ntmps25
     go_wp2_with (first|(go_at_call 74;refine(d1 _).mono ?_;rintro e A ⟨rfl,D⟩;simp only[yk] at D;obtain⟨T,U,l2,F⟩:=zej D;obtain⟨c0,c1,c2,c3,c4,⟨ka,kc,c5,_⟩,c6,c7⟩:=V.out _ F;have O:=ye A _ c0;have J:=ye A _ U;have M:=ye A _ T;have I:Hid _:=F;clear D F)|(go_at_call 54;refine(d2 _).mono ?_;rintro e w' ⟨rfl,rfl⟩))
     go_ret;exact⟨rfl,I.out.alloc I.out.size _⟩
    ·simp only[ya he];have a6:(xn == u)=false:=by simp[he]
     go_enter Tryz.func25,Tryz.ntmps25
     go_wp2_with (first|(go_at_call 74;refine(d1 _).mono ?_;rintro e A ⟨rfl,D⟩;simp only[yk] at D;obtain⟨T,U,l2,F⟩:=zej D;obtain⟨c0,c1,c2,c3,c4,⟨ka,kc,c5,_⟩,c6,c7⟩:=V.out _ F;have O:=ye A _ c0;have J:=ye A _ U;have M:=ye A _ T;have I:Hid _:=F;clear D F)|(go_at_call 54;refine(d2 _).mono ?_;rintro e w' ⟨rfl,rfl⟩))
     go_ret;exact⟨rfl,I.out.alloc I.out.size _⟩
def zam(w:World)(a:Option Addr)(hs:List (Int × Int)):Prop :=
 ∀ i,i<hs.length->∃ b o,a=some ⟨b,o,none⟩/\w.cell? ⟨b,o+i*2,none⟩=some (.int .i64 (hs.getD i (0,0)).1)/\w.cell? ⟨b,o+i*2+1,none⟩=some (.int .i64 (hs.getD i (0,0)).2)
theorem zam.below{w w' : World}{a:Option Addr}{hs:List (Int × Int)}(h:zam w a hs)(D:Below w.heap.size w w'):zam w' a hs:=fun i F=>by
 obtain⟨b,o,e,h1,A⟩:=h i F;exact⟨b,o,e,(D.cell (ye w ⟨b,o+i*2,none⟩ h1)).trans h1,(D.cell (ye w ⟨b,o+i*2+1,none⟩ A)).trans A⟩
def zdR(S:List Nd):List (Int × Int)->Int
 | []=>0
 | h :: r=>if zco S h.1 h.2=0 then zdR S r else zco S h.1 h.2
def zar(S:List Nd)(hs:List (Int × Int)):Int:=if zaD S=0 then zdR S hs else zaD S
theorem zfg{α:Type}{l:List α}{d:α}{k:Nat}(h:k<l.length):l.drop k=l.getD k d :: l.drop (k+1):=by
 rw[zaf l d h];exact List.drop_eq_getElem_cons h
theorem zcM(a:Option Addr)(c:Nat)(S:List Nd)(ha:Option Addr)(hc:Nat)(hs:List (Int × Int))(w:World)(hN:S.length<=9223372036854775807)(hB:Big S)(hS:zae w a S)(hL:hs.length<=9223372036854775807)(hH:zam w ha hs) :
  Calls Tryz.prog 105 #[.agg #[.slice a S.length c],.slice ha hs.length hc] w fun e w' => e=.returned (.int .i64 (zar S hs))/\Below w.heap.size w w' := by
 have R0:Hid (zaD S=0->zar S hs=zdR S (hs.drop 0)):=fun h=>by unfold zar;rw[yd h];rfl
 have R1:Hid (zaD S≠0->zar S hs=zaD S):=fun h=>by unfold zar;rw[ya h]
 have dc:=fun(W:World) (V:zae W a S)=>zdn a c S W hN hB V;have dh:=fun(p u:Int) (W:World) (V:zae W a S)=>zgq a c S p u W hN V;have DH:Hid _:=dh;have HS:Hid (zae w a S):=hS;have HH:Hid (zam w ha hs):=hH;clear hS hH dh hB;generalize zar S hs=a5 at *;generalize hn:S.length=n at *;generalize hm:hs.length=m at *;have HM:Hid (hs.length=m):=hm;clear hm hn;by_cases J:zaD S=0
 ·rw[J] at dc;have R2:Hid _:=R0.out J;clear R0 R1 J
  go_enter Tryz.func105,Tryz.ntmps105
  go_wp2_with (go_at_call 20;refine(dc _ (HS.out.below ((yj _ _).alloc (yi _) _))).mono ?_;rintro e w1 ⟨rfl,F⟩)
  have lb:w1.cell? ⟨w.heap.size,0,none⟩=some (.slice a n c):=zgJ (by simpa using F);have U:Below w.heap.size w w1:=((yj _ _).alloc (yi _) _).trans (F.mono (by simp));clear F dc
  go_loopg [16] m (fun g s16 wr=>∃ k:Nat,k<=m/\m-k<=g/\s16=.int .i64 k/\Below w.heap.size w wr/\wr.cell? ⟨w.heap.size,0,none⟩=some (.slice a n c)/\Hid (a5=zdR S (hs.drop k)))
  case atStart=>exact⟨0,by omega,by omega,rfl,U,lb,R2⟩
  case round =>
   obtain⟨k,hk,hg,rfl,M,a4,A⟩:=hrel;have a6:=ye _ _ a4;clear lb U R2;by_cases Z:k<m
   ·obtain⟨b,o,rfl,c0,c1⟩:=(HH.out.below M) k (by rw[HM.out];exact Z);have a8:=ye _ _ c0;have D:=A.out;rw[zfg (d:=(0,0)) (by rw[HM.out];exact Z)] at D;simp only[zdR] at D;generalize (hs.getD k (0,0)).1=p at *;generalize (hs.getD k (0,0)).2=u at *;have d1:=fun W V=>DH.out p u W V;have HB:Hid (∀ o1,zae (wr.alloc o1) a S):=fun o1=>(HS.out.below M).below ((yj _ _).alloc (yi _) _);generalize zco S p u=ev at *;by_cases J:ev=0
    ·subst J;rw[yd rfl] at D;have T:Hid _:=D;clear D
     go_wp2_with (go_at_call 25;refine(d1 _ (HB.out _)).mono ?_;rintro e w2 ⟨rfl,O⟩)
     go_roundg (m-(k+1))
     case measure=>omega
     case rel =>
      have I:Below wr.heap.size wr w2:=((yj _ _).alloc (yi _) _).trans (O.mono (by simp));exact⟨k+1,by omega,by omega,by go_num,M.trans (I.mono M.size),(I.cell a6).trans a4,T⟩
    ·rw[ya J] at D;have a7:(ev == 0)=false:=by simp[J]
     have T:Hid _:=D;clear D
     go_wp2_with (go_at_call 25;refine(d1 _ (HB.out _)).mono ?_;rintro e w2 ⟨rfl,O⟩)
     go_ret;have I:Below wr.heap.size wr w2:=((yj _ _).alloc (yi _) _).trans (O.mono (by simp));exact⟨by rw[T.out];rfl,M.trans (I.mono M.size)⟩
   ·have:k=m:=by omega
    subst this;have D:=A.out;rw[<- HM.out,List.drop_length] at D;have T:Hid _:=D;clear D
    go_wp2
    go_ret;exact⟨by rw[T.out];rfl,M⟩
 ·have R2:Hid _:=R1.out J;clear R0 R1;generalize zaD S=ev at *;have a7:(ev == 0)=false:=by simp[J]
  go_enter Tryz.func105,Tryz.ntmps105
  go_wp2_with (go_at_call 20;refine(dc _ (HS.out.below ((yj _ _).alloc (yi _) _))).mono ?_;rintro e w1 ⟨rfl,F⟩)
  go_ret;exact⟨by rw[R2.out];rfl,((yj _ _).alloc (yi _) _).trans (F.mono (by simp))⟩
def zaw(S:List Nd):Nat->Nat->List Int
 | 0,p=>[(p:Int)]
 | f+1,p=>(p:Int) ::(nd S p).ks.flatMap fun k=>zaw S f k.toNat
def Deep(S:List Nd):Nat->Nat->Prop
 | 0,p=>(nd S p).ks=[]
 | f+1,p=>∀ k ∈ (nd S p).ks,(0<=k/\k<S.length)/\Deep S f k.toNat
def zbG(ks:Nat->List Int):Nat->Nat->List Int
 | 0,p=>[(p:Int)]
 | f+1,p=>(p:Int) ::(ks p).flatMap fun k=>zbG ks f k.toNat
def zjG(ks:Nat->List Int)(n:Nat):Nat->Nat->Prop
 | 0,p=>ks p=[]
 | f+1,p=>∀ k ∈ ks p,(0<=k/\k<n)/\zjG ks n f k.toNat
theorem zgA(S:List Nd):∀ f p,zbG (fun p=>(nd S p).ks) f p=zaw S f p
 | 0,_=>rfl
 | f+1,p=>by
  simp only[zbG,zaw]
  congr 1
  congr 1
  funext k
  exact zgA S f k.toNat
theorem zkU{S:List Nd}:∀ {f p:Nat},Deep S f p->zjG (fun p=>(nd S p).ks) S.length f p
 | 0,_,h=>h
 | _+1,_,h=>fun k w=>⟨(h k w).1,zkU (h k w).2⟩
def zce(W:World)(A:Nat)(l:List Int)(w:World):Prop :=
 Off (fun k=>k=A) W w/\∃ v,w.cell? ⟨A,0,none⟩=some v/\w.frozen? ⟨A,0,none⟩=false/\w.ownsRow W.heap.size 3 1 v l.length (l.map (Value.int .i64))
theorem grownBy_setCell(w:World)(a:Addr)(v:Value):w.grownBy (w.setCell a v) (some a.block) :=
 ⟨rfl,rfl,rfl,by simp[World.setCell],fun k _ A=>yo _ _ _ _ (fun e=>A (by rw[e]))⟩
theorem zce.step{W J w2:World}{w:Nat}{l:List Int}{p:Int}{v V:Value}(F:w<W.heap.size)(I:Off (fun k=>k=w) W J)(hc:J.cell? ⟨w,0,none⟩=some v)(Z:J.frozen? ⟨w,0,none⟩=false)
  (T:J.ownsRow W.heap.size 3 1 v l.length (l.map (Value.int .i64))) (o1:Obj)
  (D:w2.ownsRow W.heap.size 3 1 V (l.length+1) (l.map (Value.int .i64)++[.int .i64 p])) (hg:(J.alloc o1).grownBy w2 v.ownBlock) :
  w2.cell? ⟨w,0,none⟩=some v/\w2.frozen? ⟨w,0,none⟩=false/\zce W w (l++[p]) (w2.setCell ⟨w,0,none⟩ V):=by
 have U:∀ k,v.ownBlock=some k->W.heap.size<=k:=fun k O=>(T.lt k O).1;have a4:w<J.heap.size:=ys F I.size
 have A:∀ k,k<W.heap.size->w2.heap[k]?=J.heap[k]?:=fun k O =>
  (hg.block k (by have:=I.size;simp;omega) (fun e=>by have:=U k e.symm;omega)).trans (Below.heap_alloc _ _ _ (by have:=I.size;omega))
 have M:w2.cell? ⟨w,0,none⟩=some v:=(yw (A w F)).trans hc;refine⟨M,(World.frozen?_of_block (A w F)).trans Z,?_,V,World.cell?_setCell_same _ _ _ M,?_,?_⟩
 ·refine⟨?_,?_,?_,?_,fun k O hx=>?_⟩
  ·exact hg.os.trans I.os
  ·exact hg.tape.trans I.tape
  ·exact hg.output.trans I.output
  ·have:=hg.size;have h2:=I.size;simp[World.setCell] at *;omega
  ·rw[yo _ _ _ _ (by exact hx),A k O];exact I.block k O hx
 ·rw[World.frozen?_setCell];exact(World.frozen?_of_block (A w F)).trans Z
 ·have h3:=D.kept (grownBy_setCell w2 ⟨w,0,none⟩ V) (by
   cases hb:V.ownBlock with
   | none=>exact Or.inl rfl
   | some k=>right;intro e;have:=(D.lt k hb).1;simp at e;omega)
  simpa using h3
theorem zce.below{W I w2:World}{F:Nat}{l:List Int}(h:zce W F l I)(J:F<W.heap.size)(w:Below I.heap.size I w2):zce W F l w2:=by
 obtain⟨M,v,O,T,D⟩:=h;have A:F<I.heap.size:=ys J M.size
 exact⟨M.trans (Off.of_below w),v,(w.cell (by exact A)).trans O,(w.frozen (by exact A)).trans T,D.kept (row:=none) ⟨w.os,w.tape,w.output,w.size,fun k U _=>w.block k U⟩ (by
  cases hv:v.ownBlock with
  | none=>exact Or.inl rfl
  | some k=>exact Or.inr (fun e=>by cases e))⟩
theorem zgo(ks:List Int)(sub:Int->List Int)(q:Nat)(hq:q<ks.length):(ks.take (q+1)).flatMap sub=(ks.take q).flatMap sub++sub (ks.getD q 0):=by
 rw[List.take_succ_eq_append_getElem hq,List.flatMap_append,zaf ks 0 hq];simp
theorem zeh(ks:List Int)(sub:Int->List Int)(q:Nat):((ks.take q).flatMap sub).length<=(ks.flatMap sub).length:=by
 have h:=List.take_append_drop q ks
 have:(ks.flatMap sub).length=((ks.take q).flatMap sub).length+((ks.drop q).flatMap sub).length:=by
  rw[<- List.length_append,<- List.flatMap_append,h]
 omega
theorem zjD(ks:Nat->List Int)(n:Nat)(K:Nat)(T:Array Value)(W:World)(A bb bw:Nat)(c9:A<W.heap.size)(d9:bb<W.heap.size)(e0:bw<W.heap.size)(f0:bb≠A)(how:bw≠A)
  (eg:∀ args w,(callFunc K args).run Tryz.prog w=.ok (.enter K args) w)
  (M:W.cell? ⟨bb,0,none⟩=some (.func (.func K) #[] T)) (V:W.cell? ⟨bw,0,none⟩=some (.func (.func 143) #[] #[.pointer (some ⟨A,0,none⟩),.pointer (some ⟨bb,0,none⟩),.pointer (some ⟨bw,0,none⟩)]))
  (a9:∀ p,p<n->∃ ka kc,(ks p).length<=9223372036854775807/\(∀ D,Off (fun k=>k=A) W D->zaj D ka (ks p))/\∀ D,Off (fun k=>k=A) W D->Calls Tryz.prog K (#[.int .i64 p] ++ T) D fun e w2=>e=.returned (.slice ka (ks p).length kc)/\Below D.heap.size D w2) (p:Nat) (hp:p<n) (sub:Int->List Int)
  (b4:∀ k ∈ ks p,∀ l D,l.length+(sub k).length<=1000000->zce W A l D ->
   Calls Tryz.prog 143 #[.int .i64 k,.pointer (some ⟨A,0,none⟩),.pointer (some ⟨bb,0,none⟩),.pointer (some ⟨bw,0,none⟩)] D fun e w2=>e=.returned (.tuple #[])/\zce W A (l++sub k) w2)
  (l:List Int) (D:World) (hlen:l.length+1+((ks p).flatMap sub).length<=1000000) (hI:zce W A l D) :
  Calls Tryz.prog 143 #[.int .i64 p,.pointer (some ⟨A,0,none⟩),.pointer (some ⟨bb,0,none⟩),.pointer (some ⟨bw,0,none⟩)] D fun e w2=>e=.returned (.tuple #[])/\zce W A (l++(p:Int) ::(ks p).flatMap sub) w2:=by
 obtain⟨i0,e8,f6,f7,f8⟩:=info_parts info3;obtain⟨hO,v,hc,hf,a8⟩:=hI;obtain⟨ka,kc,f9,a4,J⟩:=a9 p hp;have e9:l.length+1<=1000000:=by omega
 have g2:=hO.size
 have U:∀ w2,Off (fun k=>k=A) W w2->w2.cell? ⟨bb,0,none⟩=some (.func (.func K) #[] T)/\w2.cell? ⟨bw,0,none⟩=some (.func (.func 143) #[] #[.pointer (some ⟨A,0,none⟩),.pointer (some ⟨bb,0,none⟩),.pointer (some ⟨bw,0,none⟩)]):=fun w2 h2 =>
  ⟨(h2.cell (by exact d9) (by exact f0)).trans M,(h2.cell (by exact e0) (by exact how)).trans V⟩
 have a5:Hid _:=U;have d8:Hid _:=b4;have HL:Hid _:=hlen;have HO:Hid (Off (fun k=>k=A) W D):=hO;have a6:Hid (D.ownsRow W.heap.size 3 1 v l.length (l.map (Value.int .i64))):=a8;have HC:Hid _:=hc;have HF:Hid _:=hf;have b6:Hid _:=a4;have O:Hid _:=J;clear U b4 hlen hO a8 M V a9 a4 J hp;generalize ks p=ks at *
 go_enter Tryz.func143,Tryz.ntmps143
 go_wp2_with (at_builtin;refine wpList_append_own _ rfl _ _ 29 rfl W.heap.size 3 i0 (.int .i64 0) 1 8 Tryz.underlying29 e8 f6 f7 f8 rfl (by decide) _ _ _ rfl (a6.out.alloc _) ⟨D.heap.size,0,none⟩ 1 1 [.int .i64 (p:Int)] rfl rfl ?c1 ?c2 ?c3 ?c4 ?c5 ?_)
 case c1 =>
  intro j u hj
  match j,hj with
  | 0,hj=>simp at hj;subst hj;simp[Addr.add]
 case c2=>intro u hu;simp at hu;subst hu;rfl
 case c3=>unfold maxLen;omega
 case c4=>omega
 case c5=>simp;omega
 intro v' w2 F Z _
 obtain⟨g', I,rfl⟩:∃ g' I,v' = .slice (some ⟨g', 0,none⟩) (l.length+1) I:=by
  rcases F.2 with ⟨_,h⟩ |⟨g', I,g0,h,_⟩
  ·omega
  ·exact⟨g', I,h⟩
 obtain⟨e6,e7,b7⟩:=zce.step c9 HO.out HC.out HF.out a6.out _ F Z;obtain⟨M,V⟩:=a5.out _ b7.1;have b5:Hid (zce W A (l++(p:Int) ::(ks.take 0).flatMap sub) _):=(show zce W A (l++(p:Int) :: []) _ from b7);clear F Z b7 hc hf V;generalize d6:ks.length=L at *;have KL:Hid (ks.length=L):=d6;clear d6
 go_wp2_with (go_at_fn K;refine(O.out _ b5.out.1).mono ?_;rintro e w4 ⟨rfl,c8⟩)
 have d7:Hid (zce W A (l++(p:Int) ::(ks.take 0).flatMap sub) w4):=b5.out.below c9 c8;clear b5 c8 e6 e7 M O
 go_wp2
 go_loopg [15] L (fun g s18 wr=>∃ q:Nat,q<=L/\L-q<=g/\s18=.int .i64 q/\Hid (zce W A (l++(p:Int) ::(ks.take q).flatMap sub) wr))
 case atStart=>exact⟨0,by omega,by omega,rfl,d7⟩
 case round =>
  obtain⟨q,hq,hg,rfl,I3⟩:=hrel;by_cases c7:q<L
  ·obtain⟨M,V⟩:=a5.out _ I3.out.1;obtain⟨kb,ko,rfl,g1⟩:=(b6.out _ I3.out.1) q (by rw[KL.out];exact c7);have a7:ks.getD q 0 ∈ ks:=by rw[zaf ks 0 (by rw[KL.out];exact c7)];exact List.getElem_mem _
   have c6:=zgo ks sub q (by rw[KL.out];exact c7);have b9:=zeh ks sub (q+1);rw[c6] at b9;have b8:=d8.out (ks.getD q 0) a7 _ wr (by have:=HL.out;simp only[List.length_append,List.length_cons] at b9 this |-;omega) I3.out;have FT:Hid _:=c6;clear a7 c6 b9 I3 M;generalize ks.getD q 0=y at *
   go_wp2_with (go_at_call 143;refine b8.mono ?_;rintro e w3 ⟨rfl,I4⟩)
   go_roundg (L-(q+1))
   case measure=>omega
   case rel =>
    refine⟨q+1,by omega,by omega,by go_num,?_⟩
    have I5:zce W A (l++(p:Int) ::(ks.take (q+1)).flatMap sub) w3:=by
     rw[FT.out];simpa using I4
    exact I5
  ·have:q=L:=by omega
   subst this;have E:(ks.take q)=ks:=by rw[<- KL.out];exact List.take_length
   have I4:=I3.out;rw[E] at I4;have I5:Hid _:=I4;clear I4 E
   go_wp2
   exact bodyPost_end (v:=.tuple #[]) (by simp[results,Tryz.results143,go_sem]) rfl ⟨rfl,I5.out⟩
theorem zpo(ks:Nat->List Int)(n:Nat)(K:Nat)(D:Array Value)(W:World)(F J M:Nat)(T:F<W.heap.size)(O:J<W.heap.size)(U:M<W.heap.size)(a5:J≠F)(how:M≠F)
  (eg:∀ args w,(callFunc K args).run Tryz.prog w=.ok (.enter K args) w)
  (V:W.cell? ⟨J,0,none⟩=some (.func (.func K) #[] D)) (Z:W.cell? ⟨M,0,none⟩=some (.func (.func 143) #[] #[.pointer (some ⟨F,0,none⟩),.pointer (some ⟨J,0,none⟩),.pointer (some ⟨M,0,none⟩)]))
  (I:∀ p,p<n->∃ ka kc,(ks p).length<=9223372036854775807/\(∀ A,Off (fun k=>k=F) W A->zaj A ka (ks p))/\∀ A,Off (fun k=>k=F) W A->Calls Tryz.prog K (#[.int .i64 p] ++ D) A fun e w2=>e=.returned (.slice ka (ks p).length kc)/\Below A.heap.size A w2) :
  ∀ (f p:Nat) (l:List Int) (A:World),p<n->zjG ks n f p->l.length+(zbG ks f p).length<=1000000->zce W F l A ->
  Calls Tryz.prog 143 #[.int .i64 p,.pointer (some ⟨F,0,none⟩),.pointer (some ⟨J,0,none⟩),.pointer (some ⟨M,0,none⟩)] A fun e w2=>e=.returned (.tuple #[])/\zce W F (l++zbG ks f p) w2:=by
 intro f
 induction f with
 | zero =>
  intro p l A hp hD hlen hI;have hk:ks p=[]:=hD;have h:=zjD ks n K D W F J M T O U a5 how eg V Z I p hp (fun _=>[]) (fun k a4=>by rw[hk] at a4;cases a4) l A (by simp only[zbG] at hlen;rw[hk];simpa using hlen) hI;rw[hk] at h;exact h
 | succ f ih =>
  intro p l A hp hD hlen hI
  exact zjD ks n K D W F J M T O U a5 how eg V Z I p hp (fun k=>zbG ks f k.toNat) (fun k hk l A hl a6=>by
   obtain⟨⟨h1,h2⟩,h3⟩:=hD k hk;have:=ih k.toNat l A (by omega) h3 hl a6
   rwa [Int.toNat_of_nonneg h1] at this) l A (by simp only[zbG,List.length_cons] at hlen;omega) hI
theorem zoC{w A:World}{a:Option Addr}{n c:Nat}{p u:Int}{o3:Obj}(D:Below (w.heap.size+1+1+1) (((w.alloc (.cells #[.slice a n c] 24)).alloc (.cells #[.int .i64 p,.int .i64 u] 39)).alloc o3) A) :
  A.cell? ⟨w.heap.size,0,none⟩=some (.slice a n c)/\A.cell? ⟨w.heap.size+1,0,none⟩=some (.int .i64 p)/\A.cell? ⟨w.heap.size+1,1,none⟩=some (.int .i64 u) :=
 ⟨(D.cell (by simp;omega)).trans (by go_simp),(D.cell (by simp)).trans (by go_simp),(D.cell (by simp)).trans (by go_simp)⟩
theorem zaV(W:World)(b:Nat)(p u:Int)(h1:W.cell? ⟨b,0,none⟩=some (.int .i64 p))(w:W.cell? ⟨b,1,none⟩=some (.int .i64 u)):zam W (some ⟨b,0,none⟩) [(p,u)]:=fun i A=>by
 have:i=0:=by simpa using A
 subst this;exact⟨b,0,rfl,by simpa using h1,by simpa using w⟩
theorem zkg{W w2:World}{v:Value}{l:List Int}(w:w2.ownsRow W.heap.size 3 1 v l.length (l.map (Value.int .i64))):∃ I cap,v=.slice I l.length cap/\zaj w2 I l/\l.length<=cap/\cap<=9223372036854775807:=by
 obtain⟨hl,h⟩:=w;rcases h with ⟨rfl,h0⟩ |⟨g,cap,A,rfl,_,hg,h1,J,O,M⟩
 ·exact⟨none,0,by rw[h0],fun i D=>by omega,by omega,by omega⟩
 ·refine⟨some ⟨g,0,none⟩,cap,rfl,fun i D=>⟨g,0,rfl,?_⟩,h1,by unfold maxLen at J;omega⟩
  have F:(A.toList.take (l.length*1))[i]?=some (.int .i64 (l.getD i 0)):=by
   rw[M,List.getElem?_map,List.getElem?_eq_getElem D,zaf l 0 D];rfl
  rw[List.getElem?_take,yd (by omega)] at F;simp only[yv,World.cell?,hg];simpa using F
theorem zlC(ks:Nat->List Int)(n K:Nat)(D:Array Value)(k f:Nat)(w:World)
  (eg:∀ args w,(callFunc K args).run Tryz.prog w=.ok (.enter K args) w)
  (I:∀ p,p<n->∃ ka kc,(ks p).length<=9223372036854775807/\(∀ A,Below w.heap.size w A->zaj A ka (ks p))/\∀ A,Below w.heap.size w A->Calls Tryz.prog K (#[.int .i64 p] ++ D) A fun e w2=>e=.returned (.slice ka (ks p).length kc)/\Below A.heap.size A w2)
  (V:k<n) (hD:zjG ks n f k) (hlen:(zbG ks f k).length<=1000000) :
  Calls Tryz.prog 132 #[.int .i64 k,.func (.func K) #[] D] w fun e w' => ∃ Z cap,e=.returned (.slice Z (zbG ks f k).length cap)/\Below w.heap.size w w' /\ zaj w' Z (zbG ks f k)/\(zbG ks f k).length<=cap/\cap<=9223372036854775807:=by
 have D2:Hid (∀ (A:World),w.heap.size+3<=A.heap.size->Below w.heap.size w A ->
   A.cell? ⟨w.heap.size,0,none⟩=some (.func (.func K) #[] D) ->
   A.cell? ⟨w.heap.size+2,0,none⟩=some (.func (.func 143) #[] #[.pointer (some ⟨w.heap.size+1,0,none⟩),.pointer (some ⟨w.heap.size,0,none⟩),.pointer (some ⟨w.heap.size+2,0,none⟩)]) ->
   A.cell? ⟨w.heap.size+1,0,none⟩=some (.slice none 0 0)->A.frozen? ⟨w.heap.size+1,0,none⟩=false ->
   Calls Tryz.prog 143 #[.int .i64 k,.pointer (some ⟨w.heap.size+1,0,none⟩),.pointer (some ⟨w.heap.size,0,none⟩),.pointer (some ⟨w.heap.size+2,0,none⟩)] A fun e w2=>e=.returned (.tuple #[])/\zce A (w.heap.size+1) (zbG ks f k) w2):=fun A a6 O h1 J h3 h4=>by
  have M:∀ w2,Off (fun k=>k=w.heap.size+1) A w2->Below w.heap.size w w2:=fun w2 J=>O.trans (J.below O.size (fun k V=>by rw[V];omega))
  have h:=zpo ks n K D A (w.heap.size+1) w.heap.size (w.heap.size+2) (by omega) (by omega) (by omega) (by omega) (by omega) eg h1 J (fun p hp=>by
   obtain⟨ka,kc,r0,r1,r2⟩:=I p hp;exact⟨ka,kc,r0,fun w2 J=>r1 w2 (M w2 J),fun w2 J=>r2 w2 (M w2 J)⟩) f k [] A V hD (by simpa using hlen) ⟨Off.refl _ _,_,h3,h4,World.ownsRow_nil _ _ _ _⟩
  simpa using h
 clear I hD;generalize hl:zbG ks f k=l at *;have HL:Hid _:=hl;clear hl
 go_enter Tryz.func132,Tryz.ntmps132
 go_wp2_with fail
 refine(D2.out _ (by simp) ((((yj _ _).alloc (yi _) _).alloc (by simp) _).alloc (by simp;omega) _) (by go_simp) (by go_simp) (by go_simp) (by go_simp)).mono ?_;rintro e w2 ⟨rfl,hO,v,hc,hf,F⟩;obtain⟨Z,cap,rfl,U,T,a5⟩:=zkg F;have a4:Hid _:=U;have HB:Below w.heap.size w w2:=((((yj _ _).alloc (yi _) _).alloc (by simp) _).alloc (by simp;omega) _).trans (hO.below (by simp;omega) (fun k V=>by rw[V];omega));clear F hO U
 go_wp2
 refine yq (v:=.slice Z l.length cap) (by simp[results,Tryz.results132,go_sem]) rfl ⟨Z,cap,rfl,HB,a4.out,T,a5⟩
theorem zmu(a:Option Addr)(c:Nat)(S:List Nd)(A p:Nat)(ka:Option Addr)(kc:Nat)(L:Nat)(w:World)(M:p<S.length)(I:w.cell? ⟨A,0,none⟩=some (.slice a S.length c))
  (D:∃ b o,a=some ⟨b,o,none⟩/\w.cell? ⟨b,o+p*8+5,none⟩=some (.slice ka L kc)) :
  Calls Tryz.prog 137 #[.int .i64 p,.pointer (some ⟨A,0,none⟩)] w fun e w2=>e=.returned (.slice ka L kc)/\Below w.heap.size w w2:=by
 obtain⟨b,o,rfl,F⟩:=D;have J:(p:Int)<(S.length:Int):=by omega
 generalize S.length=n at *
 go_enter Tryz.func137,Tryz.ntmps137
 go_wp2
 go_ret;exact⟨rfl,yj _ _⟩
theorem zoB(a:Option Addr)(c:Nat)(S:List Nd)(p u E:Int)(w:World)(V:S.length<=9223372036854775807)(F:Big S)(J:zae w a S)(I:zar S [(p,u)]=E)(A:E≠0) :
  Calls Tryz.prog 127 #[.agg #[.slice a S.length c],.agg #[.int .i64 p,.int .i64 u]] w fun e w' => e=.returned (.tuple #[.slice none 0 0,.int .i64 E])/\Below w.heap.size w w' := by
 have d1:=fun(W:World) (M:Option Addr) (Z:zae W a S) (U:zam W M [(p,u)])=>zcM a c S M 1 [(p,u)] W V F Z (by simp) U;rw[I] at d1;have O:Hid _:=d1;have T:Hid (zae w a S):=J;clear J d1 I F;have hz:(E == 0)=false:=by simp[A]
 generalize S.length=n at *
 go_enter Tryz.func127,Tryz.ntmps127
 go_wp2_with (go_at_call 105;refine(O.out _ _ (T.out.below ((((yj _ _).alloc (yi _) _).alloc (by simp) _).alloc (by simp;omega) _)) (zaV _ _ _ _ (by go_simp) (by go_simp))).mono ?_;rintro e w1 ⟨rfl,D⟩)
 refine yq (v:=.tuple #[.slice none 0 0,.int .i64 E]) (by simp[results,Tryz.results127,go_sem]) rfl ⟨rfl,?_⟩;exact((((yj _ _).alloc (yi _) _).alloc (by simp) _).alloc (by simp;omega) _).trans (D.mono (by simp;omega))
theorem zie(a:Option Addr)(c:Nat)(S:List Nd)(k f:Nat)(u:Int)(w:World)(hN:S.length<=9223372036854775807)(hB:Big S)(hS:zae w a S)(hE:zar S [((k:Int),u)]=0)(hk:k<S.length)(hD:Deep S f k)(hlen:(zaw S f k).length<=1000000) :
  Calls Tryz.prog 127 #[.agg #[.slice a S.length c],.agg #[.int .i64 k,.int .i64 u]] w fun e w' => ∃ I cap,e=.returned (.tuple #[.slice I (zaw S f k).length cap,.int .i64 0])/\Below w.heap.size w w' /\ zaj w' I (zaw S f k)/\(zaw S f k).length<=cap/\cap<=9223372036854775807:=by
 have d1:=fun(W:World) (ha:Option Addr) (hW:zae W a S) (hH:zam W ha [((k:Int),u)])=>zcM a c S ha 1 [((k:Int),u)] W hN hB hW (by simp) hH;rw[hE] at d1;have D1:Hid _:=d1;have HS:Hid (zae w a S):=hS
 have D2:Hid (∀ (D:World) (O:Nat),D.cell? ⟨O,0,none⟩=some (.slice a S.length c)->Below w.heap.size w D ->
   Calls Tryz.prog 132 #[.int .i64 k,.func (.func 137) #[] #[.pointer (some ⟨O,0,none⟩)]] D fun e w' => ∃ I cap,e=.returned (.slice I (zaw S f k).length cap)/\Below D.heap.size D w' /\ zaj w' I (zaw S f k)/\(zaw S f k).length<=cap/\cap<=9223372036854775807):=fun D O h1 A=>by
  have a5:=ye _ _ h1
  have h:=zlC (fun p=>(nd S p).ks) S.length 137 #[.pointer (some ⟨O,0,none⟩)] k f D (enters_of Tryz.func137 (by kernel_rfl) rfl) (fun p hp=>by
   obtain⟨b,o,ea,c0,c1,c2,c3,c4,⟨ka,kc,c5,a7⟩,c6,c7⟩:=hS p hp;have F:∀ w2,Below D.heap.size D w2->Below w.heap.size w w2:=fun w2 M=>A.trans (M.mono A.size);exact⟨ka,kc,hB p hp,fun w2 M=>a7.below (F w2 M),fun w2 M=>zmu a c S O p ka kc _ w2 hp ((M.cell (by exact a5)).trans h1) ⟨b,o,ea,((F w2 M).cell (by exact ye _ _ c5)).trans c5⟩⟩) hk (zkU hD) (by rw[zgA];exact hlen)
  rw[zgA] at h;exact h
 clear hS d1 hE hB hD;generalize S.length=n at *;generalize hl:zaw S f k=l at *;have HL:Hid _:=hl;clear hl
 go_enter Tryz.func127,Tryz.ntmps127
 go_wp2_with (first
  |(go_at_call 105;refine(D1.out _ _ (HS.out.below ((((yj _ _).alloc (yi _) _).alloc (by simp) _).alloc (by simp;omega) _)) (zaV _ _ _ _ (by go_simp) (by go_simp))).mono ?_;rintro e D ⟨rfl,A⟩;simp only[yk] at A;obtain⟨l0,l1,l2⟩:=zoC A;have a8:=A.size;simp only[yk] at a8;have J:Below w.heap.size w D:=((((yj _ _).alloc (yi _) _).alloc (by simp) _).alloc (by simp;omega) _).trans (A.mono (by omega)))
  |(go_at_call 132;refine(D2.out _ _ l0 J).mono ?_;rintro e w2 ⟨I,cap,rfl,T,V,U,a6⟩;have a4:Hid _:=V;clear V;have Z:Hid _:=T;clear T)
  | go_in)
 refine yq (v:=.tuple #[.slice I l.length cap,.int .i64 0]) (by simp[results,Tryz.results127,go_sem]) rfl ⟨I,cap,rfl,J.trans (Z.out.mono J.size),a4.out,U,a6⟩
end Go.Proofs.YtgjfmepbphfjoaaGreat
