/-
  x
-/
import Derived.Test.YtgjfmepbphfjoaaGreatQ6
namespace Go.Proofs.YtgjfmepbphfjoaaGreat
set_option maxRecDepth 100000
set_option maxHeartbeats 4000000
set_option linter.unusedVariables false
open Go.RowKit
theorem ziS(kb L kc J:Nat)(ks:List Int)(ch:Int)(w:World)(M:ks.length=L)(O:L+1<=kc)(T:kc<=1000000000)(G:Nat->Value)(F:w.rowIs kb 3 kc G)(I:∀ j,j<L->G j=.int .i64 (ks.getD j 0))(D:w.cell? ⟨J,0,none⟩=some (.int .i64 ch)) :
  Calls Tryz.prog 145 #[.slice (some ⟨kb,0,none⟩) L kc,.int .i64 L,.slice (some ⟨J,0,none⟩) 1 1] w (zfa w kb (ins ks L ch)):=by
 have h:=Any2.slices_Insert_int_end_room (P:=Tryz.prog) (ρ:=Tryz.lays21_ren) Tryz.lays21 kb 0 L kc J 0 1 1 [.int .i64 ch] w (by omega) (by omega) (by omega) rfl
  (fun j A=>by rw[F.cell (by omega)];rfl) (fun j _=>F.frozen _)
  (fun j v A=>by
   match j,A with
   | 0,A=>simp at A;subst A;simpa using D)
  (fun v D=>by simp at D;subst D;rfl)
 refine yf (show Calls Tryz.prog 145 _ _ _ from h) ?_;rintro e w' ⟨rfl,rfl⟩;have hl:=zeF ks L ch (by omega);refine⟨kb,kc,by rw[hl,M],by omega,Or.inl rfl,zbJ (X:=fun b=>b=kb) rfl _ _ _,_,zbK _ _ _ _ F,fun j A=>?_⟩;rw[hl,M] at A;by_cases e:j=L
 ·rw[yd (by simp;omega),e,zgf ks L ch (by omega)];simp
 ·rw[ya (by simp;omega),zhU ks L j ch (by omega) (by omega),I j (by omega)]
theorem zhV(kb L kc F i:Nat)(ks:List Int)(ch:Int)(w:World)(O:ks.length=L)(hi:i<L)(a4:L+1<=kc)(a5:kc<=1000000000)(G:Nat->Value)(I:w.rowIs kb 3 kc G)(J:∀ j,j<L->G j=.int .i64 (ks.getD j 0))(V:F≠kb)(D:w.heap[F]?=some (.cells #[.int .i64 ch] 3 (0,0))) :
  Calls Tryz.prog 145 #[.slice (some ⟨kb,0,none⟩) L kc,.int .i64 i,.slice (some ⟨F,0,none⟩) 1 1] w (zfa w kb (ins ks i ch)):=by
 have Z:w.cell? ⟨F,0,none⟩=some (.int .i64 ch):=by simp[World.cell?,D]
 have M:∀ o,w.frozen? ⟨F,o,none⟩=false:=fun o=>by simp[World.frozen?,D]
 have U:w.shape? kb=some (3,kc):=by
  obtain⟨c,hc,hs,_⟩:=I;simp[World.shape?,hc,hs]
 have h:=Any2.slices_Insert_int_shift (P:=Tryz.prog) (ρ:=Tryz.lays21_ren) Tryz.lays21 kb 0 L kc i F 0 1 1 (ks.map (Value.int .i64)) [.int .i64 ch] w hi (by omega) (by omega) (by omega) V (by simpa using O) rfl
  (fun j v A=>by
   obtain⟨h1,rfl⟩:=zhW A;rw[yv,I.cell (by omega),J j (by omega)])
  (fun j A=>by rw[I.cell (by omega)];rfl) (fun j _=>I.frozen _)
  (fun j v A=>by
   match j,A with
   | 0,A=>simp at A;subst A;simpa using Z)
  (fun v D=>by simp at D;obtain⟨y,_,rfl⟩:=D;rfl) (fun v D=>by simp at D;subst D;rfl)
  3 3 1 kc (by simp[World.shape?,D]) U (by omega) (M _) (M _)
 refine yf (show Calls Tryz.prog 145 _ _ _ from h) ?_;rintro e w' ⟨rfl,rfl⟩;have hl:=zeF ks i ch (by omega);refine⟨kb,kc,by rw[hl,O],by omega,Or.inl rfl,(Off.refl _ _).drew.trans ((zbJ (X:=fun b=>b=kb) rfl _ _ _).trans (zbJ (X:=fun b=>b=kb) rfl _ _ _)),_,zbK _ _ _ _ (zbK _ _ _ _ I.drew),fun j A=>?_⟩;rw[hl,O] at A;have T:((ks.map (Value.int .i64)).drop i).length=L-i:=by simp[O]
 by_cases h2:j=i
 ·subst h2;rw[yd (by simp),zgf ks j ch (by omega)];simp
 ·rw[ya (by simp;omega)];by_cases h1:i<j
  ·rw[yd (by rw[T];omega),zlc ks i j ch (by omega) h1,zaf ks 0 (by omega)];simp[List.getD];rw[show i+(j-(i+1))=j-1 by omega];simp[show j-1<ks.length by omega]
  ·rw[ya (by omega),zhU ks i j ch (by omega) (by omega),J j (by omega)]
theorem zke(kb L kc D i:Nat)(ks:List Int)(ch:Int)(w:World)(J:ks.length=L)(Z:i<=L)(U:L<=kc)(V:kc<=1000)(G:Nat->Value)(I:w.rowIs kb 3 kc G)(A:∀ j,j<L->G j=.int .i64 (ks.getD j 0))(O:D≠kb)(T:w.heap[D]?=some (.cells #[.int .i64 ch] 3 (0,0))) :
  Calls Tryz.prog 145 #[.slice (some ⟨kb,0,none⟩) L kc,.int .i64 i,.slice (some ⟨D,0,none⟩) 1 1] w (zfa w kb (ins ks i ch)):=by
 have F:w.cell? ⟨D,0,none⟩=some (.int .i64 ch):=by simp[World.cell?,T]
 by_cases h1:i=L
 ·subst h1;by_cases M:kc=i
  ·exact zkf kb i kc D ks ch w J M (by omega) G I A F
  ·exact ziS kb i kc D ks ch w J (by omega) (by omega) G I A F
 ·by_cases M:kc=L
  ·exact ziR kb L kc D i ks ch w J (by omega) M (by omega) G I A F
  ·exact zhV kb L kc D i ks ch w J (by omega) (by omega) (by omega) G I A O T
theorem zmn{w:World}{g:Nat}{S:List Nd}{F:Nat->Value}(A:w.rowIs g 47 (S.length*8) F)
  (h:∀ i,i<S.length->F (i*8)=.bool (nd S i).u/\F (i*8+1)=.int .i64 (nd S i).n/\F (i*8+2)=.int .i64 (nd S i).t/\F (i*8+3)=.int .i64 (nd S i).m/\F (i*8+4)=.int .i64 (nd S i).p/\(∃ ka kc,F (i*8+5)=.slice ka (nd S i).ks.length kc/\zaj w ka (nd S i).ks)/\F (i*8+6)=.int .i64 (nd S i).h/\F (i*8+7)=.bool (nd S i).c) :
  zae w (some ⟨g,0,none⟩) S:=fun i M=>by
 obtain⟨D,e1,e2,e3,e4,⟨ka,kc,e5,O⟩,I,J⟩:=h i M;refine⟨g,0,rfl,?_⟩;rw[yv];refine⟨?_,?_,?_,?_,?_,⟨ka,kc,?_,O⟩,?_,?_⟩
 ·rw[A.cell (by omega),D]
 ·rw[A.cell (by omega),e1]
 ·rw[A.cell (by omega),e2]
 ·rw[A.cell (by omega),e3]
 ·rw[A.cell (by omega),e4]
 ·rw[A.cell (by omega),e5]
 ·rw[A.cell (by omega),I]
 ·rw[A.cell (by omega),J]
theorem zbZ{w:World}{kb kc:Nat}{ks:List Int}{G:Nat->Value}(A:w.rowIs kb 3 kc G)(hl:ks.length<=kc)(h:∀ j,j<ks.length->G j=.int .i64 (ks.getD j 0)):zaj w (some ⟨kb,0,none⟩) ks:=fun j D =>
 ⟨kb,0,rfl,by rw[yv,A.cell (by omega),h j D]⟩
def zee(S:List Nd)(w ch i:Nat)(j:Nat):Nd :=
 if j=ch then ⟨(nd S ch).u,(nd S ch).n,(nd S ch).t,(nd S ch).m,w,(nd S ch).ks,(nd S ch).h,(nd S ch).c⟩
 else if j=w then ⟨(nd S w).u,(nd S w).n,(nd S w).t,(nd S w).m,(nd S w).p,ins (nd S w).ks i ch,(nd S w).h,(nd S w).c⟩
 else nd S j
def zaQ(S:List Nd)(w ch i:Nat):List Nd:=(List.range S.length).map (zee S w ch i)
theorem zaE(S:List Nd)(w ch i:Nat):(zaQ S w ch i).length=S.length:=by simp[zaQ]
theorem zdt(S:List Nd)(w ch i j:Nat)(A:j<S.length):nd (zaQ S w ch i) j=zee S w ch i j:=by
 rw[zaJ (by rw[zaE];exact A)];simp[zaQ]
def atS(ks:List Int):List (Int × Int)->Int
 | []=>ks.length
 | h :: _=>idx ks h.1
theorem zjU{w w2:World}{B g:Nat}{S:List Nd}{kb kc:Nat->Nat}(hO:Own w B g S kb kc S.length){W:World}(hb:Below w.heap.size w W){A ch i D I:Nat}(hpa:A<S.length)(hch:ch<S.length)(b4:A≠ch)
  (hi:i<=(nd S A).ks.length) (a4:D=kb A\/W.heap.size<=D) (a5:Off (fun b=>b=kb A) W w2) {G:Nat->Value} (hG:w2.rowIs D 3 I G) (a9:(ins (nd S A).ks i ch).length<=I) (a6:∀ j,j<(ins (nd S A).ks i ch).length->G j=.int .i64 ((ins (nd S A).ks i ch).getD j 0)) :
  ∀ w3:World,(∀ b,g<=b->w3.heap[b]?=((w2.setCell ⟨g,A*8+5,none⟩ (.slice (some ⟨D,0,none⟩) (ins (nd S A).ks i ch).length I)).setCell ⟨g,ch*8+4,none⟩ (.int .i64 A)).heap[b]?)->zae w3 (some ⟨g,0,none⟩) (zaQ S A ch i):=by
 intro w3 O;obtain⟨_,F,hF,hN,hg,hd⟩:=hO;have a7:=hF.lt;have hW:∀ b,b<w.heap.size->b≠kb A->w2.heap[b]?=w.heap[b]?:=fun b h1 U=>(a5.block b (ys h1 hb.size) U).trans (hb.block b h1);have Z:g≠kb A:=by have:=hg A hpa;omega
 have V:=(((hF.of_block (hW g a7 Z)).set (A*8+5) (.slice (some ⟨D,0,none⟩) (ins (nd S A).ks i ch).length I)).set (ch*8+4) (.int .i64 A)).of_block (O g (yi _))
 have a8:D≠g:=by
  rcases a4 with h|h
  ·rw[h];exact fun e=>Z e.symm
  ·have:=hb.size;omega
 have T:g<=D:=by
  rcases a4 with h|h
  ·rw[h];exact Nat.le_of_lt (hg A hpa)
  ·have:=hb.size;omega
 rw[<- zaE S A ch i] at V;refine zmn V (fun j J=>?_);rw[zaE] at J;rw[zdt S A ch i j J];obtain⟨e0,e1,e2,e3,e4,e5,e6,e7,e8,b5,G0,M,e9⟩:=hN j J;unfold zee;by_cases h1:j=ch
 ·subst h1;rw[yd rfl]
  have hr:w3.rowIs (kb j) 3 (kc j) G0 :=
   (((M.of_block (hW (kb j) M.lt (fun e=>b4 (hd A hpa j J e.symm)))).setOther (by have:=hg j J;simp;omega) _).setOther (by have:=hg j J;simp;omega) _).of_block (O (kb j) (Nat.le_of_lt (hg j J)))
  refine⟨?_,?_,?_,?_,?_,⟨some ⟨kb j,0,none⟩,kc j,?_,zbZ hr e8 e9⟩,?_,?_⟩
  all_goals dsimp only
  ·rw[ya (by omega),ya (by omega),e0]
  ·rw[ya (by omega),ya (by omega),e1]
  ·rw[ya (by omega),ya (by omega),e2]
  ·rw[ya (by omega),ya (by omega),e3]
  ·rw[yd rfl]
  ·rw[ya (by omega),ya (by omega),e5]
  ·rw[ya (by omega),ya (by omega),e6]
  ·rw[ya (by omega),ya (by omega),e7]
 ·rw[ya h1];by_cases U:j=A
  ·subst U;rw[yd rfl];have hr:=((hG.setOther (a:=⟨g,j*8+5,none⟩) (by simp;omega) (.slice (some ⟨D,0,none⟩) (ins (nd S j).ks i ch).length I)).setOther (a:=⟨g,ch*8+4,none⟩) (by simp;omega) (.int .i64 j)).of_block (O D T);refine⟨?_,?_,?_,?_,?_,⟨some ⟨D,0,none⟩,I,?_,zbZ hr a9 a6⟩,?_,?_⟩
   all_goals dsimp only
   ·rw[ya (by omega),ya (by omega),e0]
   ·rw[ya (by omega),ya (by omega),e1]
   ·rw[ya (by omega),ya (by omega),e2]
   ·rw[ya (by omega),ya (by omega),e3]
   ·rw[ya (by omega),ya (by omega),e4]
   ·rw[ya (by omega),yd rfl]
   ·rw[ya (by omega),ya (by omega),e6]
   ·rw[ya (by omega),ya (by omega),e7]
  ·rw[ya U]
   have hr:w3.rowIs (kb j) 3 (kc j) G0 :=
    (((M.of_block (hW (kb j) M.lt (fun e=>U (hd j J A hpa e)))).setOther (by have:=hg j J;simp;omega) _).setOther (by have:=hg j J;simp;omega) _).of_block (O (kb j) (Nat.le_of_lt (hg j J)))
   refine⟨?_,?_,?_,?_,?_,⟨some ⟨kb j,0,none⟩,kc j,?_,zbZ hr e8 e9⟩,?_,?_⟩
   all_goals
    rw[ya (by omega),ya (by omega)];assumption
theorem zaK{X:Nat->Prop}{a:Addr}(w:World)(A:X a.block)(v:Value):Off X w (w.setCell a v) :=
 ⟨rfl,rfl,rfl,by simp,fun k _ hx=>yo w a v k (fun e=>hx (by rw[e];exact A))⟩
theorem Off.frozen{X:Nat->Prop}{w w' : World}(h:Off X w w'){p:Addr}(A:p.block<w.heap.size)(hx:¬ X p.block):w'.frozen? p=w.frozen? p:=by
 unfold World.frozen?;rw[h.block _ A hx]
theorem zmi(g c N ch:Nat)(w:World)(hch:ch<N)(F:w.cell? ⟨g,ch*8+4,none⟩=some (.int .i64 (-1))) :
  Calls Tryz.prog 106 #[.slice (some ⟨g,0,none⟩) N c,.int .i64 ch] w fun e w' => e=.returned (.tuple #[])/\Below w.heap.size w w' := by
 have A:(ch:Int)<(N:Int):=by omega
 have D:=ye _ _ F
 go_enter Tryz.func106,Tryz.ntmps106
 go_wp2
 exact yq (v:=.tuple #[]) (by simp[results,Tryz.results106,go_sem]) rfl ⟨rfl,(yj _ _).alloc (yi _) _⟩
theorem znJ(B g c:Nat)(S:List Nd)(kb kc:Nat->Nat)(D ch at' : Nat)(ha:Option Addr)(hc:Nat)(hs:List (Int × Int))(w:World)(hO:Own w B g S kb kc S.length)(hpa:D<S.length)(hch:ch<S.length)(g0:D≠ch)(b8:hs.length<=1)(hH:zam w ha hs)(a9:atS (nd S D).ks hs=at')(Z:at' <=(nd S D).ks.length) :
  Calls Tryz.prog 135 #[.slice (some ⟨g,0,none⟩) S.length c,.int .i64 D,.int .i64 ch,.slice ha hs.length hc] w fun e w' => e=.returned (.tuple #[])/\Off (fun b=>b=g\/b=kb D) w w' /\ ∀ w3:World,(∀ b,g<=b->w3.heap[b]?=w'.heap[b]?)->zae w3 (some ⟨g,0,none⟩) (zaQ S D ch at'):=by
 have AF:Hid (∀ (W w2:World) (J O:Nat) (G' : Nat->Value),Below w.heap.size w W->(J=kb D\/W.heap.size<=J)->Off (fun b=>b=kb D) W w2->w2.rowIs J 3 O G' ->(ins (nd S D).ks at' ch).length<=O->(∀ j,j<(ins (nd S D).ks at' ch).length->G' j=.int .i64 ((ins (nd S D).ks at' ch).getD j 0))->∀ w3:World,(∀ b,g<=b->w3.heap[b]?=((w2.setCell ⟨g,D*8+5,none⟩ (.slice (some ⟨J,0,none⟩) (ins (nd S D).ks at' ch).length O)).setCell ⟨g,ch*8+4,none⟩ (.int .i64 D)).heap[b]?)->zae w3 (some ⟨g,0,none⟩) (zaQ S D ch at')):=fun W w2 J O G' h1 h2 h3 h4 h5 h6=>zjU hO h1 hpa hch g0 Z h2 h3 h4 h5 h6;have HH:Hid (zam w ha hs):=hH;obtain⟨hB,F,hF,a4,hg,hd⟩:=hO;obtain⟨e0,e1,e2,e3,e4,e5,e6,e7,e8,a7,G,hG,e9⟩:=a4 D hpa;obtain⟨f0,f1,f2,f3,f4,f5,f6,f7,f8,c9,G2,d6,f9⟩:=a4 ch hch;have T:=hF.lt;have d7:=hF.frozen;have q5:w.cell? ⟨g,D*8+5,none⟩=some (.slice (some ⟨kb D,0,none⟩) (nd S D).ks.length (kc D)):=by rw[hF.cell (by omega),e5]
 have q4:w.cell? ⟨g,ch*8+4,none⟩=some (.int .i64 (nd S ch).p):=by rw[hF.cell (by omega),f4]
 have d8:=hG.lt;have h7:=hg D hpa;have dx:=fun(v:Int) (W:World) (hW:Below w.heap.size w W)=>ziQ (some ⟨kb D,0,none⟩) (kc D) (nd S D).ks v W (by omega) ((zbZ hG e8 e9).below hW);have DX:Hid _:=dx;have di:=fun(W:World) (hW:Below w.heap.size w W) (vb:Nat) (g2:vb≠kb D) (hv:W.heap[vb]?=some (.cells #[.int .i64 (ch:Int)] 3 (0,0)))=>zke (kb D) (nd S D).ks.length (kc D) vb at' (nd S D).ks ch W rfl Z e8 a7 G (hG.of_block (hW.block _ hG.lt)) e9 g2 hv;have DI:Hid _:=di;have g6:(D:Int)<(S.length:Int):=by omega
 have g4:(ch:Int)<(S.length:Int):=by omega
 have H1:Hid (hs.length<=1):=b8;have b9:Hid _:=a9;have g7:(nd S D).ks.length<=1000:=by omega
 clear e0 e1 e2 e3 e4 e5 e6 e7 e8 a7 hG e9 f0 f1 f2 f3 f4 f5 f6 f7 f8 c9 d6 f9 hF a4 hd hg dx di hH a9;generalize hL:(nd S D).ks.length=L at *;have HL:Hid _:=hL;clear hL;generalize hn:S.length=n at *;generalize hm:hs.length=m at *;have HM:Hid _:=hm;clear hn hm;have h9:m<=1:=b8
 go_enter Tryz.func135,Tryz.ntmps135
 go_wp2
 go_loopg [9,21] m (fun g1 s9 s21 wr=>∃ (k:Nat) (x:Int),k<=m/\m-k<=g1/\s21=.int .i64 k/\s9=.int .i64 x/\Below w.heap.size w wr/\Hid (x=atS (nd S D).ks (hs.take k)))
 case atStart=>exact⟨0,L,by omega,by omega,rfl,rfl,yj _ _,(show _=_ by rw[<- HL.out];rfl)⟩
 case round =>
  obtain⟨k,x,hk,g9,rfl,rfl,I,A⟩:=hrel;by_cases d9:k<m
  ·have b4:k=0:=by omega
   obtain⟨b,o,rfl,c0,c1⟩:=(HH.out.below I) k (by rw[HM.out];exact d9);have g5:(k:Int)<(m:Int):=by omega
   have g8:=ye _ _ c0
   have TK:Hid (atS (nd S D).ks (hs.take (k+1))=idx (nd S D).ks (hs.getD k (0,0)).1):=by
    subst b4;show _=_
    obtain⟨h0,hr,rfl⟩:∃ h0 hr,hs=h0 :: hr:=by
     cases hs with
     | nil=>have:=HM.out;simp at this;omega
     | cons a r=>exact⟨a,r,rfl⟩
    rfl
   generalize (hs.getD k (0,0)).1=pv at *;generalize (hs.getD k (0,0)).2=uv at *;have d1:=fun o1=>DX.out pv (wr.alloc o1) (I.alloc I.size o1);generalize idx (nd S D).ks pv=ix at *;clear b4
   go_wp2_with (go_at_call 46;refine(d1 _).mono ?_;rintro e w2 ⟨rfl,rfl⟩)
   go_roundg (m-(k+1))
   case measure=>omega
   case rel=>exact⟨k+1,ix,by omega,by omega,by go_num,rfl,I.alloc I.size _,TK.out.symm⟩
  ·have b7:k=m:=by omega
   have g3:x=(at' : Int):=by
    rw[A.out,b7,<- HM.out,List.take_length];exact b9.out
   subst b7;subst g3;have r5:=(I.cell (by exact T)).trans q5;have r4:=(I.cell (by exact T)).trans q4;have rf:=fun o=>(I.frozen (by exact T)).trans (d7 o);have h8:kb D<wr.heap.size:=ys d8 I.size;have HV:Hid ((wr.alloc (.cells #[.int .i64 (ch:Int)] 3)).heap[wr.heap.size]?=some (.cells #[.int .i64 (ch:Int)] 3 (0,0))):=heap_alloc_new wr _;clear A
   have c6:Hid (∀ w2,Off (fun b=>b=kb D) (wr.alloc (.cells #[.int .i64 (ch:Int)] 3)) w2->w2.cell? ⟨g,D*8+5,none⟩=some (.slice (some ⟨kb D,0,none⟩) L (kc D))/\(∀ v,(w2.setCell ⟨g,D*8+5,none⟩ v).cell? ⟨g,ch*8+4,none⟩=some (.int .i64 (nd S ch).p))/\(∀ o,w2.frozen? ⟨g,o,none⟩=false)):=fun w2 h2=>by
    have a6:g<wr.heap.size:=ys T I.size;have a5:=(yj _ wr).alloc (yi _) (.cells #[.int .i64 (ch:Int)] 3);refine⟨?_,fun v=>?_,fun o=>?_⟩
    ·exact((h2.cell (by simp;omega) (by simp;omega)).trans (a5.cell (by exact a6))).trans r5
    ·rw[World.cell?_setCell_other _ _ _ _ (by simp)];exact((h2.cell (by simp;omega) (by simp;omega)).trans (a5.cell (by exact a6))).trans r4
    ·exact((h2.frozen (by simp;omega) (by simp;omega)).trans (a5.frozen (by exact a6))).trans (rf o)
   go_wp2_with (go_at_call 145;refine(DI.out _ (I.alloc I.size _) wr.heap.size (by omega) HV.out).mono ?_;rintro e w2 ⟨J,O,rfl,b6,b5,M,G', a8,V⟩;obtain⟨s5,s4,sf⟩:=c6.out w2 M;have c7:Hid _:=a8;have c8:Hid _:=V;have U:Hid _:=M;clear a8 V M)
   refine bodyPost_end (v:=.tuple #[]) (by simp[results,Tryz.results135,go_sem]) rfl ⟨rfl,?_,?_⟩
   ·have h1:Off (fun b=>b=g\/b=kb D) w w2:=(Off.of_below (I.alloc I.size _)).trans (U.out.mono (fun k _ h=>Or.inr h));exact(h1.trans (zaK _ (Or.inl rfl) _)).trans (zaK _ (Or.inl rfl) _)
   ·exact AF.out _ _ _ _ _ (I.alloc I.size _) b5 U.out c7.out b6 c8.out
def zkM(X:Nat->Prop)(K:Nat)(A:Array Value)(p:Int->Bool)(w:World):Prop :=
 ∀ (x:Int) (D:World),Off X w D->Calls Tryz.prog K (#[.int .i64 x] ++ A) D fun e w2=>e=.returned (.bool (p x))/\Below D.heap.size D w2
def flt(p:Int->Bool)(ks:List Int):List Int:=ks.filter fun x=>!p x
theorem zcY(p:Int->Bool)(ks:List Int)(j:Nat)(h:j<ks.length):flt p (ks.take (j+1))=flt p (ks.take j)++(if p (ks.getD j 0) then [] else [ks.getD j 0]):=by
 unfold flt;rw[List.take_succ_eq_append_getElem h,List.filter_append,zaf ks 0 h]
 cases hp:p ks[j] <;> simp[hp]
theorem zhS(p:Int->Bool)(ks:List Int)(h:∀ i,i<ks.length->p (ks.getD i 0)=false):flt p ks=ks:=by
 unfold flt;rw[List.filter_eq_self];intro x hx;obtain⟨i,w,rfl⟩:=List.getElem_of_mem hx;have:=h i w;rw[zaf ks 0 w] at this;simp[this]
theorem znR(p:Int->Bool)(ks:List Int):(flt p ks).length<=ks.length:=List.length_filter_le _ _
def zjH(w:World)(kb cap:Nat)(l:List Int)(e:Ending)(w' : World):Prop :=
 e=.returned (.slice (some ⟨kb,0,none⟩) l.length cap)/\Off (fun b=>b=kb) w w' /\ ∃ G,w'.rowIs kb 3 cap G/\∀ j,j<l.length->G j=.int .i64 (l.getD j 0)
theorem zgS(K:Nat)(F:Array Value)(p:Int->Bool)(kb L cap:Nat)(ks:List Int)(G:Nat->Value)(w:World)(hL:ks.length=L)(hc:L<=cap)(d9:cap<=1000000000)(hG:w.rowIs kb 3 cap G)(a5:∀ j,j<L->G j=.int .i64 (ks.getD j 0))
  (eg:∀ args w,(callFunc K args).run Tryz.prog w=.ok (.enter K args) w) (hT:zkM (fun b=>b=kb) K F p w) :
  Calls Tryz.prog 125 #[.slice (some ⟨kb,0,none⟩) L cap,.func (.func K) #[] F] w (zjH w kb cap (flt p ks)):=by
 have di:=zfl K F p (some ⟨kb,0,none⟩) cap ks w (by omega) (zbZ hG (by omega) (by rw[hL];exact a5)) eg (fun x w1 hb=>hT x w1 (Off.of_below hb));rw[hL] at di;have HG:Hid (w.rowIs kb 3 cap G):=hG;have a4:Hid _:=a5;have HT:Hid (zkM (fun b=>b=kb) K F p w):=hT;have O:Hid _:=hL;have b4:=hG.lt;clear hG a5 hT hL
 go_enter Tryz.func125,Tryz.ntmps125
 go_wp2_with fail
 refine di.mono ?_;rintro e w1 ⟨r,rfl,J,hr⟩;clear di;rcases hr with ⟨rfl,Z⟩ |⟨k,hk,rfl,hp,hf⟩
 ·have a7:=zhS p ks (by rw[O.out];exact Z);have E:Hid _:=a7;clear Z a7
  go_wp2
  go_ret;refine⟨by rw[E.out,O.out];rfl,Off.of_below J,G,HG.out.of_block (J.block kb b4),fun j hj=>?_⟩;rw[E.out] at hj |-;exact a4.out j (by rw[<- O.out];exact hj)
 ·have d8:((k:Int) == -1)=false:=beq_eq_false_iff_ne.2 (by omega)
  have F0:Hid (flt p (ks.take (k+1))=ks.take k):=by
   show _=_;rw[zcY p ks k (by rw[O.out];exact hk),hp,yd rfl,List.append_nil];refine zhS p _ (fun i hi=>?_);rw[List.length_take] at hi;have b5:=O.out;have h1:=hf i (by omega);rw[zaf ks 0 (by omega)] at h1;rw[zaf (ks.take k) 0 (by rw[List.length_take];omega),List.getElem_take];exact h1
  have a6:Hid (w1.rowIs kb 3 cap G):=HG.out.of_block (J.block kb b4)
  have FI:Hid (∀ t,t<k->G t=.int .i64 ((flt p (ks.take (k+1))).getD t 0)):=fun t M=>by
   have b5:=O.out;rw[F0.out,a4.out t (by omega),zaf ks 0 (by omega),zaf (ks.take k) 0 (by rw[List.length_take];omega),List.getElem_take]
  have FL:Hid ((flt p (ks.take (k+1))).length=k):=by
   have b5:=O.out;show _=_;rw[F0.out,List.length_take];omega
  have O1:Hid (Off (fun b=>b=kb) w w1):=Off.of_below J;clear hp hf J
  go_wp2
  go_loopg [5,6] L (fun g1 s5 s6 wr=>∃ (i j:Nat) (G2:Nat->Value),i<j/\j<=L/\L-j<=g1/\s5=.int .i64 i/\s6=.int .i64 j/\Hid (Off (fun b=>b=kb) w wr)/\Hid (wr.rowIs kb 3 cap G2)/\Hid ((flt p (ks.take j)).length=i)/\Hid (∀ t,t<i->G2 t=.int .i64 ((flt p (ks.take j)).getD t 0))/\Hid (∀ t,j<=t->t<L->G2 t=.int .i64 (ks.getD t 0)))
  case atStart=>exact⟨k,k+1,G,by omega,by omega,by omega,rfl,by go_num,O1,a6,FL,FI,(show Hid _ from fun t _ M=>a4.out t M)⟩
  case round =>
   clear a6 FI FL O1;obtain⟨i,j,G2,d6,d7,c7,rfl,rfl,O2,V,L2,I2,J2⟩:=hrel;have T:kb<wr.heap.size:=V.out.lt;have a8:=V.out.frozen;by_cases b6:j<L
   ·have b8:(j:Int)<(L:Int):=by omega
    have cj:=V.out.cell (i:=j) (by omega);rw[J2.out j (yi _) b6] at cj;have ci:=V.out.cell (i:=i) (by omega);have A:=HT.out (ks.getD j 0) wr O2.out;have U:=zcY p ks j (by rw[O.out];exact b6);generalize hy:ks.getD j 0=y at *;have HY:Hid _:=hy;clear hy
    cases hq:p y with
    | true =>
     rw[hq] at A U;rw[yd rfl,List.append_nil] at U;have I:Hid _:=U;clear U
     go_wp2_with (go_at_fn K;refine A.mono ?_;rintro e w2 ⟨rfl,D⟩)
     go_roundg (L-(j+1))
     case measure=>omega
     case rel=>exact⟨i,j+1,G2,by omega,by omega,by omega,rfl,by go_num,O2.out.trans (Off.of_below D),V.out.of_block (D.block kb T),(show _=_ by rw[I.out];exact L2.out),(show Hid _ from fun t M=>by rw[I.out];exact I2.out t M),(show Hid _ from fun t h1 h2=>J2.out t (by omega) h2)⟩
    | false =>
     rw[hq] at A U;rw[ya (by simp)] at U;have I:Hid _:=U;clear U
     go_wp2_with (go_at_fn K;refine A.mono ?_;rintro e w2 ⟨rfl,D⟩;have b9:=(D.cell (by exact T)).trans ci;have b7:=fun o=>(D.frozen (by exact T)).trans (a8 o))
     go_roundg (L-(j+1))
     case measure=>omega
     case rel =>
      refine⟨i+1,j+1,_,by omega,by omega,by omega,by go_num,by go_num,(O2.out.trans (Off.of_below D)).trans (zaK (X:=fun b=>b=kb) _ rfl _),(V.out.of_block (D.block kb T)).set i (.int .i64 y),(show _=_ by rw[I.out,List.length_append,L2.out];rfl),(show Hid _ from fun t M=>?_),(show Hid _ from fun t h1 h2=>?_)⟩
      ·rw[I.out];by_cases e:t=i
       ·subst e;rw[yd rfl];simp[List.getD,L2.out]
       ·rw[ya e,I2.out t (by omega)];simp[List.getD,List.getElem?_append,L2.out,show t<i by omega]
      ·rw[ya (by omega)];exact J2.out t (by omega) h2
   ·have a9:j=L:=by omega
    subst a9;have c9:(i:Int)<=(cap:Int):=by omega
    have c8:(i:Int)<=(j:Int):=by omega
    have EF:Hid (flt p (ks.take j)=flt p ks):=by
     show _=_;rw[<- O.out,List.take_length]
    have c6:∀ ty,(Builtin.clear_ #[29] ty #[.slice (some ⟨kb,i,none⟩) (j-i) (cap-i)]).run Tryz.prog wr=.ok (.tuple #[]) (wr.setCells kb i (List.replicate (j-i) (.int .i64 0))):=fun ty=>Lib.run_clear_slice wr 29 3 ty (.int .i64 0) Tryz.underlying29 Tryz.zeroValue3 rfl rfl kb i (j-i) (cap-i) (by omega) (fun t M=>by rw[V.out.cell (by omega)];rfl) (fun t M=>a8 _)
    go_wp2
    go_ret;refine⟨?_,O2.out.trans (zbJ (X:=fun b=>b=kb) rfl _ _ _),_,zbK _ _ _ _ V.out,fun t M=>?_⟩
    ·rw[<- EF.out,L2.out];rfl
    ·rw[<- EF.out,L2.out] at M;rw[ya (by omega),I2.out t M,EF.out]
end Go.Proofs.YtgjfmepbphfjoaaGreat
