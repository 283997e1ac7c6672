/-
  x
-/
import Derived.Test.YtgjfmepbphfjoaaGreatQ7
import Derived.Deep.RegionLawGrows
import Derived.Deep.RegionHeld3
namespace Go.Proofs.YtgjfmepbphfjoaaGreat
set_option maxRecDepth 100000
set_option maxHeartbeats 4000000
set_option linter.unusedVariables false
open Go.RowKit
theorem zjf{w:World}{p:Addr}{v:Value}(h:w.cell? p=some v)(o1:Obj):(w.alloc o1).cell? p=some v :=
 (((yj _ _).alloc (yi _) o1).cell (ye _ _ h)).trans h
theorem zgZ(x c:Int)(b:Nat)(w:World)(A:w.cell? ⟨b,0,none⟩=some (.int .i64 c)) :
  Calls Tryz.prog 126 #[.int .i64 x,.pointer (some ⟨b,0,none⟩)] w fun e w' => e=.returned (.bool (decide (x=c)))/\w' = w:=by
 by_cases h:x=c
 ·subst h
  go_enter Tryz.func126,Tryz.ntmps126
  go_wp2
  go_ret;exact⟨by simp,rfl⟩
 ·have hd:decide (x=c)=false:=decide_eq_false h;have hq:(x == c)=false:=beq_eq_false_iff_ne.2 h;rw[hd]
  go_enter Tryz.func126,Tryz.ntmps126
  go_wp2
  go_ret;refine⟨?_,rfl⟩
  first
   | rfl
   | simp[hq]
def zdJ(S:List Nd)(w ch:Nat)(j:Nat):Nd :=
 if j=ch then ⟨(nd S ch).u,(nd S ch).n,(nd S ch).t,(nd S ch).m,-1,(nd S ch).ks,(nd S ch).h,(nd S ch).c⟩
 else if j=w then ⟨(nd S w).u,(nd S w).n,(nd S w).t,(nd S w).m,(nd S w).p,flt (fun x=>decide (x=(ch:Int))) (nd S w).ks,(nd S w).h,(nd S w).c⟩
 else nd S j
def zbu(S:List Nd)(w ch:Nat):List Nd:=(List.range S.length).map (zdJ S w ch)
theorem zaR(S:List Nd)(w ch:Nat):(zbu S w ch).length=S.length:=by simp[zbu]
theorem zcS(S:List Nd)(w ch j:Nat)(A:j<S.length):nd (zbu S w ch) j=zdJ S w ch j:=by
 rw[zaJ (by rw[zaR];exact A)];simp[zbu]
theorem zkj{w w2:World}{B g:Nat}{S:List Nd}{kb kc:Nat->Nat}(hO:Own w B g S kb kc S.length){W:World}(hb:Below w.heap.size w W){A ch:Nat}(hpa:A<S.length)(hch:ch<S.length)(a6:A≠ch)
  (O:Off (fun b=>b=kb A) W w2) {G:Nat->Value} (hG:w2.rowIs (kb A) 3 (kc A) G) (V:∀ j,j<(flt (fun x=>decide (x=(ch:Int))) (nd S A).ks).length->G j=.int .i64 ((flt (fun x=>decide (x=(ch:Int))) (nd S A).ks).getD j 0)) :
  Own ((w2.setCell ⟨g,A*8+5,none⟩ (.slice (some ⟨kb A,0,none⟩) (flt (fun x=>decide (x=(ch:Int))) (nd S A).ks).length (kc A))).setCell ⟨g,ch*8+4,none⟩ (.int .i64 (-1))) B g (zbu S A ch) kb kc (zbu S A ch).length:=by
 obtain⟨hB,F,hF,hN,hg,hd⟩:=hO;have a5:=hF.lt;have Z:∀ b,b<w.heap.size->b≠kb A->w2.heap[b]?=w.heap[b]?:=fun b h1 M=>(O.block b (ys h1 hb.size) M).trans (hb.block b h1);have a4:g≠kb A:=by have:=hg A hpa;omega
 have U:=(((hF.of_block (Z g a5 a4)).set (A*8+5) (.slice (some ⟨kb A,0,none⟩) (flt (fun x=>decide (x=(ch:Int))) (nd S A).ks).length (kc A))).set (ch*8+4) (.int .i64 (-1)));rw[zaR];refine⟨hB,_,by rw[zaR];exact U,fun j I=>?_,hg,hd⟩;rw[zcS S A ch j I];obtain⟨e0,e1,e2,e3,e4,e5,e6,e7,T,J,G0,D,e9⟩:=hN j I;unfold zdJ;by_cases h1:j=ch
 ·subst h1;rw[yd rfl];have hr:=((D.of_block (Z (kb j) D.lt (fun e=>a6 (hd A hpa j I e.symm)))).setOther (a:=⟨g,A*8+5,none⟩) (by have:=hg j I;simp;omega) (.slice (some ⟨kb A,0,none⟩) (flt (fun x=>decide (x=(j:Int))) (nd S A).ks).length (kc A))).setOther (a:=⟨g,j*8+4,none⟩) (by have:=hg j I;simp;omega) (.int .i64 (-1));refine⟨?_,?_,?_,?_,?_,?_,?_,?_,T,J,G0,hr,e9⟩
  all_goals dsimp only
  ·rw[ya (by omega),ya (by omega),e0]
  ·rw[ya (by omega),ya (by omega),e1]
  ·rw[ya (by omega),ya (by omega),e2]
  ·rw[ya (by omega),ya (by omega),e3]
  ·rw[yd rfl]
  ·rw[ya (by omega),ya (by omega),e5]
  ·rw[ya (by omega),ya (by omega),e6]
  ·rw[ya (by omega),ya (by omega),e7]
 ·rw[ya h1];by_cases M:j=A
  ·subst M;rw[yd rfl];have hr:=(hG.setOther (a:=⟨g,j*8+5,none⟩) (by simp;omega) (.slice (some ⟨kb j,0,none⟩) (flt (fun x=>decide (x=(ch:Int))) (nd S j).ks).length (kc j))).setOther (a:=⟨g,ch*8+4,none⟩) (by simp;omega) (.int .i64 (-1));refine⟨?_,?_,?_,?_,?_,?_,?_,?_,yx (znR _ _) T,J,G,hr,V⟩
   all_goals dsimp only
   ·rw[ya (by omega),ya (by omega),e0]
   ·rw[ya (by omega),ya (by omega),e1]
   ·rw[ya (by omega),ya (by omega),e2]
   ·rw[ya (by omega),ya (by omega),e3]
   ·rw[ya (by omega),ya (by omega),e4]
   ·rw[ya (by omega),yd rfl]
   ·rw[ya (by omega),ya (by omega),e6]
   ·rw[ya (by omega),ya (by omega),e7]
  ·rw[ya M];have hr:=((D.of_block (Z (kb j) D.lt (fun e=>M (hd j I A hpa e)))).setOther (a:=⟨g,A*8+5,none⟩) (by have:=hg j I;simp;omega) (.slice (some ⟨kb A,0,none⟩) (flt (fun x=>decide (x=(ch:Int))) (nd S A).ks).length (kc A))).setOther (a:=⟨g,ch*8+4,none⟩) (by have:=hg j I;simp;omega) (.int .i64 (-1));refine⟨?_,?_,?_,?_,?_,?_,?_,?_,T,J,G0,hr,e9⟩
   all_goals
    dsimp only;rw[ya (by omega),ya (by omega)];assumption
theorem ziU(B g c:Nat)(S:List Nd)(kb kc:Nat->Nat)(A ch:Nat)(w:World)(hO:Own w B g S kb kc S.length)(hpa:A<S.length)(hch:ch<S.length)(b6:A≠ch)(hp:(nd S ch).p=A) :
  Calls Tryz.prog 106 #[.slice (some ⟨g,0,none⟩) S.length c,.int .i64 ch] w fun e w' => e=.returned (.tuple #[])/\Off (fun b=>b=g\/b=kb A) w w' /\ Own w' B g (zbu S A ch) kb kc (zbu S A ch).length:=by
 have AF:Hid (∀ (W w2:World) (G' : Nat->Value),Below w.heap.size w W->Off (fun b=>b=kb A) W w2->w2.rowIs (kb A) 3 (kc A) G' ->(∀ j,j<(flt (fun x=>decide (x=(ch:Int))) (nd S A).ks).length->G' j=.int .i64 ((flt (fun x=>decide (x=(ch:Int))) (nd S A).ks).getD j 0))->Own ((w2.setCell ⟨g,A*8+5,none⟩ (.slice (some ⟨kb A,0,none⟩) (flt (fun x=>decide (x=(ch:Int))) (nd S A).ks).length (kc A))).setCell ⟨g,ch*8+4,none⟩ (.int .i64 (-1))) B g (zbu S A ch) kb kc (zbu S A ch).length):=fun W w2 G' h1 V h3 h4=>zkj hO h1 hpa hch b6 V h3 h4;obtain⟨hB,F,Z,O,hg,hd⟩:=hO;obtain⟨e0,e1,e2,e3,e4,e5,e6,e7,e8,a8,G,hG,e9⟩:=O A hpa;obtain⟨f0,f1,f2,f3,f4,f5,f6,f7,f8,a9,G2,b4,f9⟩:=O ch hch;have U:=Z.lt;have b5:=Z.frozen;have q5:w.cell? ⟨g,A*8+5,none⟩=some (.slice (some ⟨kb A,0,none⟩) (nd S A).ks.length (kc A)):=by rw[Z.cell (by omega),e5]
 have q4:w.cell? ⟨g,ch*8+4,none⟩=some (.int .i64 (A:Int)):=by rw[Z.cell (by omega),f4,hp]
 have c7:=hG.lt;have c6:=hg A hpa
 have dd:Hid (∀ (W:World),Below w.heap.size w W->W.cell? ⟨w.heap.size,0,none⟩=some (.int .i64 (ch:Int))->Calls Tryz.prog 125 #[.slice (some ⟨kb A,0,none⟩) (nd S A).ks.length (kc A),.func (.func 126) #[] #[.pointer (some ⟨w.heap.size,0,none⟩)]] W (zjH W (kb A) (kc A) (flt (fun x=>decide (x=(ch:Int))) (nd S A).ks))):=fun W hW I =>
  zgS 126 #[.pointer (some ⟨w.heap.size,0,none⟩)] (fun x=>decide (x=(ch:Int))) (kb A) (nd S A).ks.length (kc A) (nd S A).ks G W rfl e8 (by omega) (hG.of_block (hW.block _ hG.lt)) e9 (enters_of Tryz.func126 (by kernel_rfl) rfl)
   (fun x w1 D=>(zgZ x (ch:Int) w.heap.size w1 ((D.cell (ye _ _ I) (by show ¬ (w.heap.size=kb A);omega)).trans I)).mono (fun e w3 h=>⟨h.1,by rw[h.2];exact yj _ _⟩))
 have b9:(A:Int)<(S.length:Int):=by omega
 have b8:(ch:Int)<(S.length:Int):=by omega
 have c8:((A:Int) == -1)=false:=beq_eq_false_iff_ne.2 (by omega);clear e0 e1 e2 e3 e4 e5 e6 e7 e8 a8 hG e9 f0 f1 f2 f3 f4 f5 f6 f7 f8 a9 b4 f9 Z O hd hg hp;generalize (nd S A).ks.length=L at *;generalize S.length=n at *;have Q5:=zjf q5;have Q4:=zjf q4
 have a5:Hid (∀ w2 o1,Off (fun b=>b=kb A) (w.alloc o1) w2->w2.cell? ⟨g,A*8+5,none⟩=some (.slice (some ⟨kb A,0,none⟩) L (kc A))/\(∀ v,(w2.setCell ⟨g,A*8+5,none⟩ v).cell? ⟨g,ch*8+4,none⟩=some (.int .i64 (A:Int)))/\(∀ o,w2.frozen? ⟨g,o,none⟩=false)):=fun w2 o1 V=>by
  have T:=(yj _ w).alloc (yi _) o1;refine⟨?_,fun v=>?_,fun o=>?_⟩
  ·exact((V.cell (by simp;omega) (by simp;omega)).trans (T.cell (by exact U))).trans q5
  ·rw[World.cell?_setCell_other _ _ _ _ (by simp)];exact((V.cell (by simp;omega) (by simp;omega)).trans (T.cell (by exact U))).trans q4
  ·exact((V.frozen (by simp;omega) (by simp;omega)).trans (T.frozen (by exact U))).trans (b5 o)
 go_enter Tryz.func106,Tryz.ntmps106
 go_wp2_with (go_at_call 125;refine(dd.out _ ((yj _ _).alloc (yi _) _) (by go_simp)).mono ?_;rintro e w2 ⟨rfl,D,G', a4,M⟩;obtain⟨s5,s4,sf⟩:=a5.out w2 _ D;have b7:w2.cell? ⟨w.heap.size,0,none⟩=some (.int .i64 (ch:Int)):=(D.cell (by simp) (by show ¬ (w.heap.size=kb A);omega)).trans (by go_simp);have a6:Hid _:=a4;have a7:Hid _:=M;have J:Hid _:=D;clear a4 M D)
 refine bodyPost_end (v:=.tuple #[]) (by simp[results,Tryz.results106,go_sem]) rfl ⟨rfl,?_,AF.out _ _ _ ((yj _ _).alloc (yi _) _) J.out a6.out a7.out⟩;have h1:Off (fun b=>b=g\/b=kb A) w w2:=(Off.of_below ((yj _ _).alloc (yi _) _)).trans (J.out.mono (fun k _ h=>Or.inr h));exact(h1.trans (zaK _ (Or.inl rfl) _)).trans (zaK _ (Or.inl rfl) _)
theorem zqW:(Tryz.prog.info? 39).map (fun i=>(i.zero,i.size,i.bytes))=some (some (.agg #[.int .i64 0,.int .i64 0]),2,16):=by kernel_rfl
theorem zfX(A:Option Addr)(F:Nat)(hs:List (Int × Int))(p u:Int)(w:World)(J:hs.length<=9223372036854775807)(D:zam w A hs) :
  Calls Tryz.prog 134 #[.slice A hs.length F,.agg #[.int .i64 p,.int .i64 u]] w fun e w' => e=.returned (.bool (decide ((p,u) ∈ hs)))/\Below w.heap.size w w' := by
 have d1:=fun o1=>zjZ A F hs p u (w.alloc o1) J (D.below ((yj _ _).alloc (yi _) o1))
 have R:Hid (∀ r:Int,((0<=r)↔(p,u) ∈ hs)->decide (0<=r)=decide ((p,u) ∈ hs)):=fun r h=>by
  by_cases e:(p,u) ∈ hs
  ·rw[decide_eq_true e,decide_eq_true (h.2 e)]
  ·rw[decide_eq_false e,decide_eq_false (fun x=>e (h.1 x))]
 clear D;generalize decide ((p,u) ∈ hs)=q at *;generalize ((p,u) ∈ hs)=Q at *;generalize hs.length=m at *
 go_enter Tryz.func134,Tryz.ntmps134
 go_wp2_with (go_at_call 144;refine(d1 _).mono ?_;rintro e O ⟨r,rfl,M,hr⟩;have I:Hid _:=hr;clear hr)
 go_ret;refine⟨?_,((yj _ _).alloc (yi _) _).trans (M.mono (by simp))⟩;rw[<- R.out r I.out];rfl
theorem zbC{w A:World}{a:Option Addr}{n c:Nat}{p F x I:Int}(D:Below (w.heap.size+1+1+1+1) ((((w.alloc (.cells #[.slice a n c] 24)).alloc (.cells #[.int .i64 p,.int .i64 F] 39)).alloc (.cells #[.int .i64 x,.int .i64 I] 39)).alloc (.cells #[.slice none 0 0] 24)) A) :
  A.cell? ⟨w.heap.size,0,none⟩=some (.slice a n c)/\A.cell? ⟨w.heap.size+1,0,none⟩=some (.int .i64 p)/\A.cell? ⟨w.heap.size+1,1,none⟩=some (.int .i64 F)/\A.cell? ⟨w.heap.size+1+1,0,none⟩=some (.int .i64 x)/\A.cell? ⟨w.heap.size+1+1,1,none⟩=some (.int .i64 I)/\A.cell? ⟨w.heap.size+1+1+1,0,none⟩=some (.slice none 0 0)/\(∀ o,A.frozen? ⟨w.heap.size+1+1+1,o,none⟩=false):=by
 refine⟨?_,?_,?_,?_,?_,?_,fun o=>?_⟩
 ·exact(D.cell (by first|(simp;done)|(simp;omega))).trans (by go_simp)
 ·exact(D.cell (by first|(simp;done)|(simp;omega))).trans (by go_simp)
 ·exact(D.cell (by first|(simp;done)|(simp;omega))).trans (by go_simp)
 ·exact(D.cell (by first|(simp;done)|(simp;omega))).trans (by go_simp)
 ·exact(D.cell (by first|(simp;done)|(simp;omega))).trans (by go_simp)
 ·exact(D.cell (by first|(simp;done)|(simp;omega))).trans (by go_simp)
 ·exact(D.frozen (by first|(simp;done)|(simp;omega))).trans (by go_simp)
theorem zaq(w:World)(o1 A o3 D:Obj):Below w.heap.size w ((((w.alloc o1).alloc A).alloc o3).alloc D):=(zal w o1 A o3).alloc (by simp;omega) _
theorem zcr{w:World}{p:Addr}{v:Value}(h:w.cell? p=some v)(o1:Obj):(w.alloc o1).cell? p=some v :=
 (((yj _ _).alloc (yi _) o1).cell (ye _ _ h)).trans h
theorem zfk(W:World)(b:Nat)(p u x y:Int)(h1:W.cell? ⟨b,0,none⟩=some (.int .i64 p))(w:W.cell? ⟨b,1,none⟩=some (.int .i64 u))(A:W.cell? ⟨b,2,none⟩=some (.int .i64 x))(D:W.cell? ⟨b,3,none⟩=some (.int .i64 y)):zam W (some ⟨b,0,none⟩) [(p,u),(x,y)]:=fun i F=>by
 match i,F with
 | 0,_=>exact⟨b,0,rfl,by simpa using h1,by simpa using w⟩
 | 1,_=>exact⟨b,0,rfl,by simpa using A,by simpa using D⟩
structure WF (S:List Nd):Prop where
 small:S.length<=24
 node:∀ i,i<S.length->zba S.length (nd S i)=0
 kids:zdk S
 hosts:zdY S S.length
 noring:∀ i,i<S.length->zbm S i i=false
theorem zcP(N:Int):∀ l:List Nd,zbT N l=0↔∀ x ∈ l,zba N x=0
 | []=>by simp[zbT]
 | x :: r=>by
  simp only[zbT,List.mem_cons];by_cases h:zba N x=0
  ·rw[yd h,zcP N r];exact⟨fun H y hy=>hy.elim (fun e=>by rw[e];exact h) (H y),fun H y hy=>H y (Or.inr hy)⟩
  ·rw[ya h];exact⟨fun H=>absurd H h,fun H=>absurd (H x (Or.inl rfl)) h⟩
theorem zdy(S:List Nd):zaD S=0↔WF S:=by
 unfold zaD zeQ zkx;constructor
 ·intro h
  split at h
  ·omega
  ·rename_i I
   split at h
   ·rename_i h1;rw[zcP] at h1
    split at h
    ·rename_i D
     split at h
     ·rename_i F
      split at h
      ·omega
      ·rename_i A;refine⟨by omega,fun i w=>h1 _ (by rw[zaJ w];exact List.getElem_mem w),of_decide_eq_true D,of_decide_eq_true F,fun i w=>?_⟩;simp only[Bool.not_eq_true,List.any_eq_false,List.mem_range] at A;have:=A i w;simpa using this
     ·omega
    ·omega
   ·exact absurd h (by assumption)
 ·rintro⟨h0,h1,D,F,A⟩
  rw[ya (by omega),yd ((zcP _ _).2 fun x hx=>by
   obtain⟨i,w,rfl⟩:=List.getElem_of_mem hx;have:=h1 i w
   rwa [zaJ w] at this),yd (decide_eq_true D),yd (decide_eq_true F),ya]
  simp only[Bool.not_eq_true,List.any_eq_false,List.mem_range];intro i w;rw[A i w]
theorem zbc{N:Int}{x:Nd}(h:zba N x=0):zbV x=true/\zbv N x=true/\zcy x=true:=by
 unfold zba at h
 split at h
 ·split at h
  ·split at h
   ·exact⟨by assumption,by assumption,by assumption⟩
   ·omega
  ·omega
 ·omega
theorem WF.kid{S:List Nd}(h:WF S){i:Nat}(F:i<S.length){x:Int}(hx:x ∈ (nd S i).ks) :
  ∃ k:Nat,x=k/\k<S.length/\(nd S k).u=true/\(nd S k).p=i/\zah (nd S k)=i:=by
 have h1:=(zeI (zeJ (h.node i F))).1 x hx;obtain⟨J,A,D⟩:=h.kids.1 i F x hx;obtain⟨k,rfl⟩:∃ k:Nat,x=(k:Int):=⟨x.toNat,by omega⟩;have I:k<S.length:=by omega
 simp only[yg] at A D;refine⟨k,rfl,I,A,D,?_⟩;have w:=(zbc (h.node k I)).2.2;unfold zcy at w;rw[yd A] at w;unfold zah
 split at w
 ·cases w
 ·split at w
  ·rename_i hh;rw[yd hh];exact D
  ·have:=of_decide_eq_true w;omega
def Up(S:List Nd):Nat->Nat->Nat->Prop
 | 0,x,p=>x=p
 | j+1,x,p=>∃ y:Nat,y<S.length/\zah (nd S x)=y/\Up S j y p
theorem Up.det{S:List Nd}:∀ {j x p q:Nat},Up S j x p->Up S j x q->p=q
 | 0,_,_,_,h,k=>by cases h;cases k;rfl
 | j+1,_,_,_,⟨y,_,F,w⟩,⟨D,_,I,A⟩=>by
  have:y=D:=by omega
  subst this;exact Up.det w A
theorem Up.trans{S:List Nd}:∀ {i j x y z:Nat},Up S i x y->Up S j y z->Up S (i+j) x z
 | 0,j,_,_,_,h,k=>by cases h;simpa using k
 | i+1,j,_,_,_,⟨D,h1,w,A⟩,k=>by
  rw[show i+1+j=(i+j)+1 by omega];exact⟨D,h1,w,Up.trans A k⟩
theorem Up.split{S:List Nd}:∀ {i j x z:Nat},Up S (i+j) x z->∃ y,Up S i x y/\Up S j y z
 | 0,j,x,_,h=>⟨x,rfl,by simpa using h⟩
 | i+1,j,x,z,h=>by
  rw[show i+1+j=(i+j)+1 by omega] at h;obtain⟨I,h1,w,A⟩:=h;obtain⟨y,D,F⟩:=Up.split A;exact⟨y,⟨I,h1,w,D⟩,F⟩
theorem zhO{S:List Nd}:∀ {j x w f:Nat} (st:Bool),Up S (j+1) x w->j+1<=f->zbs S zah (zcF w) f (zah (nd S x)) st=true
 | j,x,w,0,_,_,F=>by omega
 | j,x,w,f+1,st,⟨y,h1,D,A⟩,F=>by
  rw[D];have I:zeY S.length (y:Int)=true:=decide_eq_true ⟨by omega,by omega⟩;simp only[zbs,I,if_true,zcF,yg];by_cases e:(y:Int)=(w:Int)
  ·simp[e]
  ·simp only[decide_eq_false e,Bool.not_false,if_true]
   cases j with
   | zero=>exact absurd (by cases A;rfl) e
   | succ j=>exact zhO _ A (by omega)
theorem WF.no_ring{S:List Nd}(h:WF S){x j:Nat}(hx:x<S.length)(h1:1<=j)(w:j<=S.length):¬ Up S j x x:=fun D=>by
 obtain⟨j,rfl⟩:∃ i,j=i+1:=⟨j-1,by omega⟩;have:=h.noring x hx;unfold zbm at this;have A:zeY S.length (x:Int)=true:=decide_eq_true ⟨by omega,by omega⟩;rw[A,yd rfl,yg,zhO false D w] at this;cases this
theorem WF.up_one{S:List Nd}{i k:Nat}(w:i<S.length)(hr:zah (nd S k)=i):Up S 1 k i:=⟨i,w,hr,rfl⟩
theorem zgh{N:Nat}{l:List Nat}(h:l.Nodup)(hl:∀ y ∈ l,y<N):l.length<=N:=by
 have:=h.length_le_of_subset (l₂:=List.range N) (fun y hy=>List.mem_range.2 (hl y hy));simpa using this
theorem WF.deep{S:List Nd}(h:WF S):∀ (f x:Nat) (r:List Nat),x<S.length->(x :: r).Nodup->(∀ y ∈ r,y<S.length)->(∀ y ∈ r,∃ j,1<=j/\j<=r.length/\Up S j x y)->S.length<=f+r.length+1->Deep S f x:=by
 have step:∀ (x:Nat) (r:List Nat),x<S.length->(x :: r).Nodup->(∀ y ∈ r,y<S.length)->(∀ y ∈ r,∃ j,1<=j/\j<=r.length/\Up S j x y)->∀ k:Nat,k<S.length->zah (nd S k)=x ->
   (k :: x :: r).Nodup/\(∀ y ∈ x :: r,y<S.length)/\(∀ y ∈ x :: r,∃ j,1<=j/\j<=(x :: r).length/\Up S j k y):=fun x r hx hn hr I k D w=>by
  have A:∀ y ∈ x :: r,y<S.length:=fun y hy=>by
   rcases List.mem_cons.1 hy with rfl|hy
   ·exact hx
   ·exact hr y hy
  have hlen:=zgh hn A
  have J:∀ y ∈ x :: r,∃ j,1<=j/\j<=(x :: r).length/\Up S j k y:=fun y hy=>by
   rcases List.mem_cons.1 hy with rfl|hy
   ·exact⟨1,by omega,by simp,WF.up_one hx w⟩
   ·obtain⟨j,U,j2,O⟩:=I y hy;exact⟨1+j,by omega,by simp;omega,(WF.up_one hx w).trans O⟩
  refine⟨List.nodup_cons.2 ⟨fun Z=>?_,hn⟩,A,J⟩;obtain⟨j,U,j2,O⟩:=J k Z;exact h.no_ring D U (by omega) O
 intro f
 induction f with
 | zero =>
  intro x r hx hn hr I V;show (nd S x).ks=[]
  cases hks:(nd S x).ks with
  | nil=>rfl
  | cons k ks =>
   obtain⟨k', rfl,D,_,_,w⟩:=h.kid hx (x:=k) (by rw[hks];simp);obtain⟨h1,M,T⟩:=step x r hx hn hr I k' D w
   have:=zgh h1 (fun y hy=>by
    rcases List.mem_cons.1 hy with rfl|hy
    ·exact D
    ·exact M y hy)
   simp at this;omega
 | succ f ih =>
  intro x r hx hn hr I V k D;obtain⟨k', rfl,F,_,_,w⟩:=h.kid hx D;obtain⟨h1,M,T⟩:=step x r hx hn hr I k' F w;refine⟨⟨by omega,by omega⟩,?_⟩;rw[yg];exact ih k' (x :: r) F h1 M T (by simp;omega)
theorem WF.deep_all{S:List Nd}(h:WF S){p:Nat}(w:p<S.length):Deep S S.length p :=
 h.deep S.length p [] w (by simp) (fun y hy=>by cases hy) (fun y hy=>by cases hy) (by omega)
end Go.Proofs.YtgjfmepbphfjoaaGreat
