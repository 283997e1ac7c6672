/-
  x
-/
import Derived.Test.YtgjfmepbphfjoaaGreatQ43
namespace Go.Proofs.YtgjfmepbphfjoaaGreat
set_option maxRecDepth 100000
set_option maxHeartbeats 4000000
set_option linter.unusedVariables false
open Go.RowKit Go.ChangeShapes Go.WideShapes
structure ECl where
 n:Int
 ka:Option Addr
 kl:Nat
 kc:Nat
def zrq(x:ECl):Nat->Value
 | 0=>.int .i64 x.n
 | _=>.slice x.ka x.kl x.kc
theorem zsu(n:Nat)(hn:n<=100000)(w:World):(Instr.makeSlice 26 (.int .i64 (n:Int)) (.int .i64 (n:Int))).run Tryz.prog w=.ok (.slice (some ⟨w.heap.size,0,none⟩) n n) (w.alloc (.cells (madeCells #[.int .i64 0,.slice none 0 0] (n*2)) 45)):=by
 have J:(Tryz.prog.info? 45).map (fun i=>(i.zero,i.size,i.bytes))=some (some (.agg #[.int .i64 0,.slice none 0 0]),2,32):=by kernel_rfl
 obtain⟨i,I,A,D,F⟩:=info_parts J;have h:=run_make (P:=Tryz.prog) w 26 45 i _ Tryz.underlying26 I A .i64 .i64 n n (by omega) (by omega) (by rw[F];omega) (by omega);rw[D] at h;simp only[yg] at h;exact h
theorem zbX.putCl{w:World}{g n k:Nat}{F:Nat->Value}(h:w.rowIs g 45 (n*2) F)(x:ECl):∃ A,((w.setCell ⟨g,k*2,none⟩ (.int .i64 x.n)).setCell ⟨g,k*2+1,none⟩ (.slice x.ka x.kl x.kc)).rowIs g 45 (n*2) A/\(∀ j,j<2->A (k*2+j)=zrq x j)/\∀ i,i<k->∀ j,j<2->A (i*2+j)=F (i*2+j):=by
 refine⟨_,(h.set _ _).set _ _,fun j D=>?_,fun i I j D=>?_⟩
 ·rcases(by omega:j=0\/j=1) with rfl|rfl
  ·rw[ya (by omega),yd (by omega)];rfl
  ·rw[yd rfl];rfl
 ·rw[ya (by omega),ya (by omega)]
theorem zsn(K:Nat)(eg:∀ args w,(callFunc K args).run Tryz.prog w=.ok (.enter K args) w)(a:Option Addr)(c n:Nat)(S:Nat->ECl)(R:Nat->ECl->Nat->Nat->World->Prop)(w:World)(hn:n<=100000)
  (hs:∀ i,i<n->∃ b o,a=some ⟨b,o,none⟩/\w.cell? ⟨b,o+i*2,none⟩=some (.int .i64 (S i).n)/\w.cell? ⟨b,o+i*2+1,none⟩=some (.slice (S i).ka (S i).kl (S i).kc))
  (hK:∀ i,i<n->∀ W,Below w.heap.size w W->Calls Tryz.prog K #[.agg #[.int .i64 (S i).n,.slice (S i).ka (S i).kl (S i).kc]] W fun e U=>∃ y:ECl,e=.returned (.agg #[.int .i64 y.n,.slice y.ka y.kl y.kc])/\Below W.heap.size W U/\St (fun b=>b<W.heap.size\/U.heap.size<=b) (R i y W.heap.size U.heap.size) U) :
  Calls Tryz.prog 115 #[.slice a n c,.func (.func K) #[] #[]] w fun e w' => e=.returned (.slice (some ⟨w.heap.size,0,none⟩) n n)/\Below w.heap.size w w' /\ zbX zrq 45 2 n R w.heap.size n w' := by
 have HS:Hid _:=hs;have HK:Hid _:=hK;clear hs hK;have b5:=zsu n hn
 go_enter Tryz.func115,Tryz.ntmps115
 go_wp2
 go_loopg [13] n (fun m s13 wr=>∃ k:Nat,k<=n/\n-k<=m/\s13=.int .i64 k/\Below w.heap.size w wr/\Hid (zbX zrq 45 2 n R w.heap.size k wr))
 case atStart=>exact⟨0,by omega,by omega,rfl,zab _ _,zbX.zero w _ 45 2 n R (S 0)⟩
 case round =>
  obtain⟨k,hk,hg,rfl,I,O⟩:=hrel;by_cases M:k<n
  ·have a8:(k:Int)<(n:Int):=by omega
   obtain⟨b,o,rfl,c0,c1⟩:=HS.out k M;replace c0:=zac c0 I;replace c1:=zac c1 I;have a9:b<wr.heap.size:=ye _ _ c0;obtain⟨A,Z,F,V⟩:=O.out.facts;have D:Hid (∀ W,Below wr.heap.size wr W->Calls _ _ _ _ _):=fun W hW=>HK.out k M W (I.trans (hW.mono I.size));generalize S k=x at *;obtain⟨xn,b6,b8,b7⟩:=x;dsimp only at c0 c1 D
   go_wp2_with (go_at_fn K;refine(D.out _ ?nd).mono ?_;(case nd=>exact zab _ _);rintro e w3 ⟨⟨yn,a4,a6,a5⟩,rfl,J,h3⟩;have HR:Hid _:=h3;clear h3;have T:Hid (Below wr.heap.size wr w3):=(zab _ _).trans (J.mono (by simp));have s3:Hid (wr.heap.size<=w3.heap.size):=T.out.size;have SZ:Hid _:=J.size;clear J;have q0:=(T.out.cell (by exact A)).trans (V (k*2) (by omega));have q1:=(T.out.cell (by exact A)).trans (V (k*2+1) (by omega));have a7:=fun o=>(T.out.frozen (by exact A)).trans (Z o);have b4:w.heap.size<w3.heap.size:=ys A s3.out)
   go_roundg (n-(k+1))
   case measure=>omega
   case rel =>
    refine⟨k+1,by omega,by omega,by go_num,(((I.trans (T.out.mono I.size)).setCell (by simp) _).setCell (by simp) _),zbX.step O.out M T.out (by simp) ?_ HR.out rfl (((zbA.refl (fun b=>b=w.heap.size) _).trans (zbA.set (X:=fun b=>b=w.heap.size) _ _ rfl)).trans (zbA.set (X:=fun b=>b=w.heap.size) _ _ rfl)) (fun F V=>zbX.putCl V ⟨yn,a4,a6,a5⟩)⟩;have:=SZ.out;simpa using this
  ·have:k=n:=by omega
   subst this
   go_wp2
   go_ret;exact⟨rfl,I,O.out⟩
def RCl(G:List Cl)(i:Nat)(y:ECl)(A w:Nat)(V:World):Prop:=y.n=(cl G i).n/\y.kl=(cl G i).ks.length/\zaj V y.ka (cl G i).ks
theorem zpz{w:World}{g:Nat}{G:List Cl}(h:zbX zrq 45 2 G.length (RCl G) g G.length w):zaY w (some ⟨g,0,none⟩) G:=fun i J=>by
 obtain⟨v,_,_,F,A,M⟩:=h;obtain⟨h1,_,_,_,_,I⟩:=M i J;obtain⟨D,e1,hI⟩:=I.at;refine⟨g,0,rfl,?_⟩;rw[yv];refine⟨(A.cell (by omega)).trans ?_,(v i).ka,(v i).kc,(A.cell (by omega)).trans ?_,hI⟩
 ·rw[<- D];exact congrArg some (h1 0 (by omega))
 ·rw[<- e1];exact congrArg some (h1 1 (by omega))
theorem znw(n:Int)(ka:Option Addr)(kc:Nat)(ks:List Int)(w:World)(hk:ks.length<=1000)(M:zaj w ka ks) :
  Calls Tryz.prog 116 #[.agg #[.int .i64 n,.slice ka ks.length kc]] w fun e w' => ∃ g,e=.returned (.agg #[.int .i64 n,.slice (some ⟨g,0,none⟩) ks.length ks.length])/\Below w.heap.size w w' /\ w.heap.size<=g/\w'.rowIs g 3 ks.length (fun j=>.int .i64 (ks.getD j 0)):=by
 have D:Hid (∀ W,Below w.heap.size w W->Calls _ _ _ _ _):=fun W hW=>zed ka kc ks W (by omega) (M.below hW);clear M hk;obtain⟨l,hl⟩:∃ l,ks.length=l:=⟨_,rfl⟩;rw[hl] at D |-;clear hl
 go_enter Tryz.func116,Tryz.ntmps116
 go_wp2_with fail
 obtain⟨V,I⟩:∃ V,(w.alloc (.cells #[.int .i64 n,.slice ka l kc] 45)).alloc (.cells #[.int .i64 0,.slice none 0 0] 45)=V:=⟨_,rfl⟩;have Z:V.cell? ⟨w.heap.size,0,none⟩=some (.int .i64 n):=by rw[<- I];exact zaH _ _ _ 0 _ rfl
 have v1:V.cell? ⟨w.heap.size,1,none⟩=some (.slice ka l kc):=by rw[<- I];exact zaH _ _ _ 1 _ rfl
 have z0:V.cell? ⟨w.heap.size+1,0,none⟩=some (.int .i64 0):=by rw[<- I];exact zaI _ _ _ 0 _ rfl
 have z1:V.cell? ⟨w.heap.size+1,1,none⟩=some (.slice none 0 0):=by rw[<- I];exact zaI _ _ _ 1 _ rfl
 have zf:∀ o,V.frozen? ⟨w.heap.size+1,o,none⟩=false:=fun o=>by rw[<- I];exact znt _ _ _ _ _
 have T:Hid (Below w.heap.size w V):=by rw[<- I];exact zai _ _ _
 have sV:w.heap.size+1<V.heap.size:=ye _ _ z0;have a4:w.heap.size<V.heap.size:=ye _ _ Z;rw[I];clear I
 go_region_held3 (fun O=>O.cell? ⟨w.heap.size,0,none⟩=some (.int .i64 n)/\O.cell? ⟨w.heap.size,1,none⟩=some (.slice ka l kc)) (go_keep) (first|(go_at_call 73;refine yf (D.out _ ?nd) ?_;(case nd=>exact T.out.drew);rintro e w3 ⟨rfl,J,F⟩;have A:Hid (Below V.heap.size V w3):=(yj V.heap.size V).drew.trans J;have U:Hid (Below w.heap.size w w3):=T.out.trans (A.out.mono T.out.size);have HR:Hid (w3.rowIs V.heap.size 3 l (fun j=>.int .i64 (ks.getD j 0))):=F;have u0:=zac Z A.out;have u1:=zac v1 A.out;have q0:=zac z0 A.out;have q1:=zac z1 A.out;have fz:=fun o=>(A.out.frozen (show (⟨w.heap.size+1,o,none⟩:Addr).block<V.heap.size from sV)).trans (zf o);have s3:V.heap.size<w3.heap.size:=World.rowIs.lt F;clear J F))
 go_wp2
 refine yq (v:=.agg #[.int .i64 n,.slice (some ⟨V.heap.size,0,none⟩) l l]) (by simp[results,Tryz.results116,go_sem,q0,q1]) rfl ⟨V.heap.size,rfl,(U.out.setCell (by simp) _).setCell (by simp) _,T.out.size,(HR.out.setOther (by simp;omega) _).setOther (by simp;omega) _⟩
theorem zlM(a:Option Addr)(c:Nat)(G:List Cl)(w:World)(T:G.length<=1000)(hK:∀ i,i<G.length->(cl G i).ks.length<=1000)(I:zaY w a G) :
  Calls Tryz.prog 115 #[.slice a G.length c,.func (.func 116) #[] #[]] w fun e w' => e=.returned (.slice (some ⟨w.heap.size,0,none⟩) G.length G.length)/\Below w.heap.size w w' /\ zbX zrq 45 2 G.length (RCl G) w.heap.size G.length w' := by
 obtain⟨f,F⟩:=Classical.skolem.1 (fun i=>show ∃ x:Option Addr × Nat,i<G.length->(∃ b o,a=some ⟨b,o,none⟩/\w.cell? ⟨b,o+i*2,none⟩=some (.int .i64 (cl G i).n)/\w.cell? ⟨b,o+i*2+1,none⟩=some (.slice x.1 (cl G i).ks.length x.2))/\zaj w x.1 (cl G i).ks by
  by_cases A:i<G.length
  ·obtain⟨b,o,e,c0,ka,kc,c1,D⟩:=I i A;exact⟨(ka,kc),fun _=>⟨⟨b,o,e,c0,c1⟩,D⟩⟩
  ·exact⟨(none,0),fun h=>absurd h A⟩)
 refine zsn 116 (enters_of Tryz.func116 (by kernel_rfl) rfl) a c G.length (fun i=>⟨(cl G i).n,(f i).1,(cl G i).ks.length,(f i).2⟩) (RCl G) w (by omega) (fun i A=>(F i A).1) (fun i A W J=>?_);refine(znw (cl G i).n (f i).1 (f i).2 (cl G i).ks W (hK i A) ((F i A).2.below J)).mono ?_;rintro e w' ⟨g,rfl,M,hg,hr⟩;refine⟨⟨(cl G i).n,some ⟨g,0,none⟩,(cl G i).ks.length,(cl G i).ks.length⟩,rfl,M,fun w2 O=>⟨rfl,rfl,zhX (hr.of_block (O.block g hr.lt (fun hx=>?_)))⟩⟩;have:=hr.lt;rcases hx with hx|hx <;> omega
theorem zlI(a:Option Addr)(c:Nat)(G:List Cl)(w:World)(U:G.length<=1000)(hK:∀ i,i<G.length->(cl G i).ks.length<=1000)(I:zaY w a G) :
  Calls Tryz.prog 72 #[.agg #[.slice a G.length c]] w fun e w' => ∃ g,e=.returned (.agg #[.slice (some ⟨g,0,none⟩) G.length G.length])/\Below w.heap.size w w' /\ w.heap.size<=g/\St (fun b=>b<w.heap.size\/w'.heap.size<=b) (fun V=>zaY V (some ⟨g,0,none⟩) G) w' := by
 have D:Hid (∀ o1 J,Calls _ _ _ _ _):=fun o1 J=>zlM a c G ((w.alloc o1).alloc J) U hK (I.below (zai _ _ _));have O:Hid (∀ V:World,zbX zrq 45 2 G.length (RCl G) (w.heap.size+1+1) G.length V->St (fun b=>b<w.heap.size\/V.heap.size<=b) (fun V=>zaY V (some ⟨w.heap.size+1+1,0,none⟩) G) V):=fun V h=>(h.st (by omega) (yi _)).imp (fun V h=>zpz h);clear I hK;simp only[yk] at D;generalize G.length=n at *
 go_enter Tryz.func72,Tryz.ntmps72
 go_wp2_with (go_at_call 115;refine(D.out _ _).mono ?_;rintro e w3 ⟨rfl,A,F⟩;have T:Hid (zbX zrq 45 2 n (RCl G) (w.heap.size+1+1) n w3):=F;clear F;have Z:w3.cell? ⟨w.heap.size+1,0,none⟩=some (.slice none 0 0):=(A.cell (by simp)).trans (by go_simp);have y2:∀ o,w3.frozen? ⟨w.heap.size+1,o,none⟩=false:=fun o=>(A.frozen (by simp)).trans (by go_simp);have M:Hid (Below w.heap.size w w3):=(zai _ _ _).trans (A.mono (by omega));clear A)
 refine yq (v:=.agg #[.slice (some ⟨w.heap.size+1+1,0,none⟩) n n]) (by simp[results,Tryz.results72,go_sem,Z]) rfl ⟨w.heap.size+1+1,rfl,M.out.setCell (by simp) _,by omega,O.out _ (T.out.set (by omega) _)⟩
def hcF(hs:List (Int × Int)):Nat->Value:=fun j=>.int .i64 (if j % 2=0 then (hs.getD (j / 2) (0,0)).1 else (hs.getD (j / 2) (0,0)).2)
theorem zsp(hs:List (Int × Int))(i:Nat):hcF hs (i*2)=.int .i64 (hs.getD i (0,0)).1:=by
 unfold hcF;rw[yd (by omega),show i*2 / 2=i by omega]
theorem zsq(hs:List (Int × Int))(i:Nat):hcF hs (i*2+1)=.int .i64 (hs.getD i (0,0)).2:=by
 unfold hcF;rw[ya (by omega),show (i*2+1) / 2=i by omega]
theorem zfj{w:World}{h:Nat}{hs:List (Int × Int)}(hr:w.rowIs h 39 (hs.length*2) (hcF hs)):zam w (some ⟨h,0,none⟩) hs:=fun i A=>by
 refine⟨h,0,rfl,?_,?_⟩
 ·rw[yv,hr.cell (by omega),zsp]
 ·rw[yv,hr.cell (by omega),zsq]
theorem zrC(hs:List (Int × Int))(k:Nat)(x:Int × Int)(A:k<hs.length):(fun j=>if j=k*2+1 then Value.int .i64 x.2 else if j=k*2 then Value.int .i64 x.1 else hcF hs j)=hcF (hs.set k x):=by
 have key:∀ i,(hs.set k x).getD i (0,0)=if i=k then x else hs.getD i (0,0):=fun i=>by
  by_cases e:i=k
  ·subst e;rw[yd rfl];simp[List.getD_eq_getElem?_getD,A]
  ·rw[ya e];exact zla _ _ _ _ _ e
 funext j
 unfold hcF;rw[key];by_cases h1:j=k*2+1
 ·subst h1;rw[yd rfl,ya (by omega),yd (by omega)]
 ·rw[ya h1];by_cases w:j=k*2
  ·subst w;rw[yd rfl,yd (by omega),yd (by omega)]
  ·rw[ya w,ya (show ¬ j / 2=k by omega)]
def zhE(w:World)(g:Nat)(X:Nat->Prop)(S:List Nd):Prop :=
 ¬ X g/\∃ F,w.rowIs g 47 (S.length*8) F/\∀ i,i<S.length->∃ kb kc,NdR w F (i*8) (nd S i) kb kc/\kb≠g/\¬ X kb
theorem zhE.off{w w' : World}{g:Nat}{X:Nat->Prop}{S:List Nd}(h:zhE w g X S)(J:zbA X w w'):zhE w' g X S:=by
 obtain⟨hg,F,D,Z⟩:=h;refine⟨hg,F,D.of_block (J.block g D.lt hg),fun i hi=>?_⟩;obtain⟨kb,kc,⟨M,e1,e2,e3,e4,e5,O,T,U,A,G,I,V⟩,hk,hx⟩:=Z i hi;exact⟨kb,kc,⟨M,e1,e2,e3,e4,e5,O,T,U,A,G,I.of_block (J.block kb I.lt hx),V⟩,hk,hx⟩
theorem zhE.lt{w:World}{g:Nat}{X:Nat->Prop}{S:List Nd}(h:zhE w g X S):g<w.heap.size:=by
 obtain⟨_,F,A,_⟩:=h;exact A.lt
theorem zhE.grow{w:World}{g:Nat}{X Y:Nat->Prop}{S:List Nd}(h:zhE w g X S)(D:∀ b,b<w.heap.size->Y b->X b):zhE w g Y S:=by
 obtain⟨hg,F,A,I⟩:=h;refine⟨fun hy=>hg (D g A.lt hy),F,A,fun i J=>?_⟩;obtain⟨kb,kc,h1,M,hx⟩:=I i J;exact⟨kb,kc,h1,M,fun hy=>hx (D kb h1.row hy)⟩
theorem zhE.nds{w:World}{g:Nat}{X:Nat->Prop}{S:List Nd}(h:zhE w g X S):zae w (some ⟨g,0,none⟩) S:=fun i V=>by
 obtain⟨_,F,A,U⟩:=h;obtain⟨kb,kc,⟨D,e1,e2,e3,e4,e5,I,J,e8,M,G,T,O⟩,_⟩:=U i V;refine⟨g,0,rfl,?_⟩;rw[yv];refine⟨?_,?_,?_,?_,?_,⟨some ⟨kb,0,none⟩,kc,?_,fun j Z=>⟨kb,0,rfl,?_⟩⟩,?_,?_⟩
 ·rw[A.cell (by omega),D]
 ·rw[A.cell (by omega),e1]
 ·rw[A.cell (by omega),e2]
 ·rw[A.cell (by omega),e3]
 ·rw[A.cell (by omega),e4]
 ·rw[A.cell (by omega),e5]
 ·rw[yv,T.cell (by omega),O j Z]
 ·rw[A.cell (by omega),I]
 ·rw[A.cell (by omega),J]
theorem zhE.st{w:World}{g:Nat}{X:Nat->Prop}{S:List Nd}(h:zhE w g X S):St X (fun V=>zae V (some ⟨g,0,none⟩) S) w:=fun w' A=>(h.off A).nds
theorem zhE.mark{w:World}{g:Nat}{X:Nat->Prop}{S:List Nd}{k:Nat}(h:zhE w g X S)(hk:k<S.length)(n:Int):zhE (w.setCell ⟨g,k*8+3,none⟩ (.int .i64 n)) g X (S.set k { nd S k with m:=n }):=by
 obtain⟨hg,F,Z,hN⟩:=h;refine⟨hg,_,by rw[List.length_set];exact Z.set (k*8+3) (.int .i64 n),fun i O=>?_⟩;rw[List.length_set] at O;obtain⟨kb,kc,⟨T,e1,e2,e3,e4,e5,U,V,J,A,G,hG,M⟩,I,hx⟩:=hN i O;have D:=hG.setOther (a:=⟨g,k*8+3,none⟩) (by simp;omega) (.int .i64 n);refine⟨kb,kc,?_,I,hx⟩;rw[zay S k i _ hk];by_cases e:i=k
 ·subst e;rw[yd rfl];refine⟨?_,?_,?_,?_,?_,?_,?_,?_,J,A,G,D,M⟩
  all_goals dsimp only
  ·rw[ya (by omega),T]
  ·rw[ya (by omega),e1]
  ·rw[ya (by omega),e2]
  ·rw[yd rfl]
  ·rw[ya (by omega),e4]
  ·rw[ya (by omega),e5]
  ·rw[ya (by omega),U]
  ·rw[ya (by omega),V]
 ·rw[ya e];refine⟨?_,?_,?_,?_,?_,?_,?_,?_,J,A,G,D,M⟩
  all_goals
   dsimp only;rw[ya (by omega)];assumption
def tOf(A:RA):Nat:=(A.a3.getD ⟨0,0,none⟩).block
abbrev znb(R:Rl):Nat->Value:=fun j=>.int .i64 (R.t.getD j 0)
structure CI (w:World) (R:Rl) (h g:Nat) (A:RA) (V:World):Prop where
 bel:Below w.heap.size w V
 h0:w.heap.size<=h
 t0:w.heap.size<=tOf A
 th:tOf A≠h
 a0:A.a0=some ⟨g,0,none⟩
 a1:A.a1=some ⟨h,0,none⟩
 a3:A.a3=some ⟨tOf A,0,none⟩
 c3:A.c3=R.t.length
 row:V.rowIs h 39 (R.hs.length*2) (hcF R.hs)
 tr:V.rowIs (tOf A) 3 R.t.length (znb R)
 own:zhE V g (fun b=>b<w.heap.size\/b=h\/b=tOf A) R.s
 cls:St (fun b=>b<w.heap.size\/b=h\/b=tOf A\/b=g) (fun V=>zaY V A.a2 R.i) V
structure WI (w:World) (R:Rl) (d h g:Nat) (A:RA) (V:World):Prop where
 bel:Below w.heap.size w V
 d0:w.heap.size<=d
 h0:w.heap.size<=h
 t0:w.heap.size<=tOf A
 dh:h≠d
 th:tOf A≠h
 td:tOf A≠d
 a0:A.a0=some ⟨g,0,none⟩
 a1:A.a1=some ⟨h,0,none⟩
 a3:A.a3=some ⟨tOf A,0,none⟩
 c3:A.c3=R.t.length
 box:V.heap[d]?=some (bxR A R)
 row:V.rowIs h 39 (R.hs.length*2) (hcF R.hs)
 tr:V.rowIs (tOf A) 3 R.t.length (znb R)
 own:zhE V g (fun b=>b<w.heap.size\/b=d\/b=h\/b=tOf A) R.s
 cls:St (fun b=>b<w.heap.size\/b=d\/b=h\/b=tOf A\/b=g) (fun V=>zaY V A.a2 R.i) V
theorem CI.wi{w V:World}{R:Rl}{h g:Nat}{A:RA}(I:CI w R h g A V):WI w R V.heap.size h g A (V.alloc (.cells #[.slice A.a0 R.s.length A.c0,.slice A.a1 R.hs.length A.c1,.slice A.a2 R.i.length A.c2,.slice A.a3 R.t.length A.c3] 31)):=by
 have D:=zab V (.cells #[.slice A.a0 R.s.length A.c0,.slice A.a1 R.hs.length A.c1,.slice A.a2 R.i.length A.c2,.slice A.a3 R.t.length A.c3] 31);have hl:=I.row.lt;have J:=I.tr.lt;exact⟨I.bel.trans (D.mono I.bel.size),I.bel.size,I.h0,I.t0,by omega,I.th,by omega,I.a0,I.a1,I.a3,I.c3,zbS _ _ _ _ _ _,I.row.of_block (D.block h hl),I.tr.of_block (D.block _ J),(I.own.grow (fun b F hy=>by omega)).off (zbA.of_below D),I.cls.grow (zbA.of_below D) (fun b F hy=>by omega)⟩
theorem WI.below{w V F:World}{R:Rl}{d h g:Nat}{A:RA}(I:WI w R d h g A V)(D:Below V.heap.size V F):WI w R d h g A F :=
 ⟨I.bel.trans (D.mono I.bel.size),I.d0,I.h0,I.t0,I.dh,I.th,I.td,I.a0,I.a1,I.a3,I.c3,zaU I.box D,I.row.of_block (D.block h I.row.lt),I.tr.of_block (D.block _ I.tr.lt),I.own.off (zbA.of_below D),I.cls.off (zbA.of_below D)⟩
theorem WI.nds{w V:World}{R:Rl}{d h g:Nat}{A:RA}(I:WI w R d h g A V):zae V (some ⟨g,0,none⟩) R.s:=I.own.nds
theorem WI.gs{w V:World}{R:Rl}{d h g:Nat}{A:RA}(I:WI w R d h g A V):w.heap.size<=g/\g≠d/\h≠g/\tOf A≠g:=by
 have:=I.own.1;omega
theorem WI.base{w V:World}{R:Rl}{d h g:Nat}{A:RA}(I:WI w R d h g A V):w.heap.size<=V.heap.size/\d<V.heap.size/\h<V.heap.size/\tOf A<V.heap.size:=⟨I.bel.size,zaC I.box,I.row.lt,I.tr.lt⟩
theorem WI.hand{w V:World}{R:Rl}{d h g:Nat}{A:RA}(I:WI w R d h g A V){k:Nat}(D:k<R.hs.length):V.cell? ⟨h,k*2,none⟩=some (.int .i64 (hd R k).1)/\V.cell? ⟨h,k*2+1,none⟩=some (.int .i64 (hd R k).2):=by
 have e:hd R (k:Int)=R.hs.getD k (0,0):=by unfold hd;rw[yg]
 rw[e];exact⟨by rw[I.row.cell (by omega),zsp],by rw[I.row.cell (by omega),zsq]⟩
structure RlF (B d:Nat) (V:World) (A:RA) (R:Rl):Prop where
 a3:A.a3=some ⟨tOf A,0,none⟩
 c3:A.c3=R.t.length
 t0:B<=tOf A
 td:tOf A≠d
 tr:V.rowIs (tOf A) 3 R.t.length (znb R)
 st:St (fun b=>b<B\/b=d\/b=tOf A) (fun V=>zae V A.a0 R.s/\zam V A.a1 R.hs/\zaY V A.a2 R.i) V
theorem RlF.at{B d:Nat}{V:World}{A:RA}{R:Rl}(h:RlF B d V A R):zaS V A R:=⟨h.st.at.1,h.st.at.2.1,h.st.at.2.2,by rw[h.a3];exact zhX h.tr⟩
theorem RlF.off{B d:Nat}{V w:World}{A:RA}{R:Rl}(h:RlF B d V A R)(D:zbA (fun b=>b<B\/b=d) V w):RlF B d w A R :=
 ⟨h.a3,h.c3,h.t0,h.td,h.tr.of_block (D.block _ h.tr.lt (by have:=h.t0;have:=h.td;omega)),h.st.off (D.mono (fun b F=>by omega))⟩
theorem RlF.below{B d:Nat}{V w:World}{A:RA}{R:Rl}(h:RlF B d V A R)(D:Below V.heap.size V w):RlF B d w A R:=h.off (zbA.of_below D)
end Go.Proofs.YtgjfmepbphfjoaaGreat
