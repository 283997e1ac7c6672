/-
  x
-/
import Derived.Test.YtcbcpomacdngmaaGreatA12
namespace Go.Proofs.YtcbcpomacdngmaaGreat
set_option maxRecDepth 100000
set_option maxHeartbeats 4000000
set_option linter.unusedVariables false
open Go.RowKit Tryz
variable{L:List Fr}{i:Nat}{k:Int}{w w':World}{G:List Cl}
theorem Ev(x:Nd)(k:Value)(w:Wd) :
  yO 219 #[.agg #[.bool x.u,.int .i64 x.n,.int .i64 x.t,.int .i64 x.m,.int .i64 x.p,k,.int .i64 x.h,.bool x.c]] w fun e w' => e=.returned (.int .i64 x.p)/\Below w.heap.size w w' := by
 go_enter func219,ntmps219
 go_wp2
 go_ret;exact⟨rfl,(yv _ _).alloc (yr _) _⟩
theorem Ew(W0 W:Wd)(a:OA)(c:Nat)(S:List Nd)(near:Bool)(F D E gs:Nat)(hN:S.length<=24)(hS:aD W0 a S)(U:Bl W0 W)(h1:W0.heap.size<=D)(h2:W0.heap.size<=gs)
  (O:F<W.heap.size) (J:D<W.heap.size) (T:gs<W.heap.size) (M:E<W.heap.size) (n1:F≠D) (n2:F≠gs) (n3:E≠D) (n4:E≠gs) (n5:D≠gs)
  (cs:W.cell? ⟨F,0,none⟩=some (.slice (some ⟨gs,0,none⟩) S.length S.length)) (Z:W.cell? ⟨E,0,none⟩=some (.bool near)) (st:(Nat->Bool) × List Int) (place:Int) (w:Wd) (h:gZ W D gs S.length st w) :
  yO 150 #[.agg #[.slice a S.length c],.int .i64 place,.func (.func 219) #[] #[],.func (.func 220) #[] #[.pointer (some ⟨F,0,none⟩),.pointer (some ⟨D,0,none⟩),.pointer (some ⟨E,0,none⟩)]] w fun e w' => e=.returned (.tuple #[])/\gZ W D gs S.length (oO S near st place) w' := by
 refine(PQ a c S w place 219 220 #[.pointer (some ⟨F,0,none⟩),.pointer (some ⟨D,0,none⟩),.pointer (some ⟨E,0,none⟩)] Nd.p (jJ near) (gZ W D gs S.length) (fun k=>k=D\/k=gs\/W.heap.size<=k) st (by omega)
  (fun st w1 h=>hS.below (U.trans (h.1.below (B:=W0.heap.size) U.size (fun k I=>by rcases I with I|I <;> omega))))
  (fun st w1 w2 h hb=>h.below hb)
  (yM func219 (by kernel_rfl) rfl) (yM func220 (by kernel_rfl) rfl)
  (fun x k w1=>Ev x k w1)
  (fun st x w1 h _ hx=>?_) h).mono ?_
 ·have hq:0<=x/\x<=(S.length:Int)-1:=of_decide_eq_true hx;obtain⟨j,rfl⟩:∃ j:Nat,x=(j:Int):=⟨x.toNat,by omega⟩;refine(Er W F D E gs S.length near st j w1 (by omega) (by omega) h O J T M n1 n2 n3 n4 n5 cs Z).mono ?_;rintro e w2 ⟨rfl,g1,g2,g3⟩;exact⟨rfl,g1,g2,fun k I=>g3 k _ _ I (by decide) (by decide) (by decide)⟩
 ·rintro e w' ⟨rfl,g1,_⟩;exact⟨rfl,g1⟩
theorem Ex(w:Wd)(D E o3 F I:Obj):Bl w (((((w.alloc D).alloc E).alloc o3).alloc F).alloc I):=(((dC w D E o3).alloc (by simp;omega) _).alloc (by simp;omega) _)
theorem Ey(a:OA)(c:Nat)(S:List Nd)(pa:OA)(pc:Nat)(places:List Int)(near:Bool)(w:Wd)(hN:S.length<=24)(hS:aD w a S)(hL:places.length<=1000000)(hP:aG w pa places) :
  yO 213 #[.agg #[.slice a S.length c],.slice pa places.length pc,.bool near] w fun e w' => ∃ v,e=.returned v/\Below w.heap.size w w' /\ w'.ownsRow w.heap.size 3 1 v (iT S near places).length ((iT S near places).map (Value.int .i64))/\(iT S near places).length<=S.length:=by
 have b5:=Eo S.length hN;have HS:Hid (aD w a S):=hS;have HP:Hid (aG w pa places):=hP;have HT:Hid (∀ k,k<places.length->nQ S near (places.take (k+1))=oO S near (nQ S near (places.take k)) (places.getD k 0)):=fun k I=>Ea S near places k I;have CL:Hid (∀ W bs bf bn gs,_):=fun W bs bf bn gs=>fun(D:Bl w W) h1 h2 b0 a8 b1 a9 n1 n2 n3 n4 n5 Z U st place W1 h=>Ew w W a c S near bs bf bn gs hN hS D h1 h2 b0 a8 b1 a9 n1 n2 n3 n4 n5 Z U st place W1 h;have H0:Hid (nQ S near (places.take 0)=(fun _=>false,[])):=rfl;have HE:Hid (iT S near places=(nQ S near (places.take places.length)).2):=by show _=_;rw[List.take_length];rfl
 generalize iT S near places=R at *;clear hS hP;generalize hn:S.length=n at *;have HN:Hid _:=hn;clear hn;generalize hl:places.length=L at *;have HL:Hid _:=hl;clear hl
 go_enter func213,ntmps213
 go_wp2
 obtain⟨W,D⟩:∃ W,W=(((((w.alloc (.cells #[.slice a n c] 43)).alloc (.cells #[.bool near] 4)).alloc (.cells (madeCells #[.bool false] n) 4)).alloc (.cells #[.slice (some ⟨w.heap.size+1+1,0,none⟩) n n] 259)).alloc (.cells #[.slice none 0 0] 48)):=⟨_,rfl⟩;rw[<- D];have hb:Bl w W:=by rw[D];exact Ex _ _ _ _ _ _
 have hz:W.heap.size=w.heap.size+1+1+1+1+1:=by rw[D];simp
 have c0:W.cell? ⟨w.heap.size,0,none⟩=some (.slice a n c):=by rw[D];go_simp
 have U:W.cell? ⟨w.heap.size+1,0,none⟩=some (.bool near):=by rw[D];go_simp
 have Z:W.cell? ⟨w.heap.size+1+1+1,0,none⟩=some (.slice (some ⟨w.heap.size+1+1,0,none⟩) n n):=by rw[D];go_simp
 have M:gZ W (w.heap.size+1+1+1+1) (w.heap.size+1+1) n (fun _=>false,[]) W:=by
  refine⟨Off.refl _ _,?_,⟨by simp,fun x hx=>by cases hx⟩,.slice none 0 0,?_,World.ownsRow_nil _ _ _ _⟩
  ·rw[D];have h0:=World.rowIs_made ((w.alloc (.cells #[.slice a n c] 43)).alloc (.cells #[.bool near] 4)) (.bool false) n 4;have h1:Below (w.heap.size+1+1+1) (((w.alloc (.cells #[.slice a n c] 43)).alloc (.cells #[.bool near] 4)).alloc (.cells (madeCells #[.bool false] n) 4)) (((((w.alloc (.cells #[.slice a n c] 43)).alloc (.cells #[.bool near] 4)).alloc (.cells (madeCells #[.bool false] n) 4)).alloc (.cells #[.slice (some ⟨w.heap.size+1+1,0,none⟩) n n] 259)).alloc (.cells #[.slice none 0 0] 48)):=((yv _ _).alloc (by simp) _).alloc (by first|(simp;done)|(simp;omega)) _;simp only[yw] at h0;exact h0.of_block (h1.block _ (by omega))
  ·rw[D];have:=yN ((((w.alloc (.cells #[.slice a n c] 43)).alloc (.cells #[.bool near] 4)).alloc (.cells (madeCells #[.bool false] n) 4)).alloc (.cells #[.slice (some ⟨w.heap.size+1+1,0,none⟩) n n] 259)) (.cells #[.slice none 0 0] 48);simpa using this
 have a7:Hid _:=M;have J:Hid (Bl w W):=hb;have a5:Hid _:=CL.o W (w.heap.size+1+1+1) (w.heap.size+1+1+1+1) (w.heap.size+1) (w.heap.size+1+1) hb (by omega) (by omega) (by omega) (by omega) (by omega) (by omega) (by omega) (by omega) (by omega) (by omega) (by omega) Z U;have C0:Hid (∀ st w1,gZ W (w.heap.size+1+1+1+1) (w.heap.size+1+1) n st w1->w1.cell? ⟨w.heap.size,0,none⟩=some (.slice a n c)/\Below w.heap.size w w1/\w.heap.size<w1.heap.size):=fun st w1 h=>⟨(h.1.cell (p:=⟨w.heap.size,0,none⟩) (by show w.heap.size < _;omega) (by show ¬ (w.heap.size=w.heap.size+1+1+1+1\/w.heap.size=w.heap.size+1+1);omega)).trans c0,J.trans (h.1.below J.size (fun k I=>by rcases I with I|I <;> omega)),by have:=h.1.size;omega⟩;clear D hb c0 U Z M CL
 go_loopg [17] L (fun g1 s17 wr=>∃ k:Nat,k<=L/\L-k<=g1/\s17=.int .i64 k/\Hid (gZ W (w.heap.size+1+1+1+1) (w.heap.size+1+1) n (nQ S near (places.take k)) wr))
 case atStart=>exact⟨0,by omega,by omega,rfl,by rw[H0.o];exact a7⟩
 case round =>
  obtain⟨k,I,b4,rfl,T⟩:=hrel;obtain⟨c0,E,b7⟩:=C0.o _ _ T.o;have a6:Hid _:=E;by_cases O:k<L
  ·have b3:(k:Int)<(L:Int):=(by omega);obtain⟨pb,po,rfl,hp⟩:=(HP.below E) k (by rw[HL.o];exact O);have b6:=yi _ _ hp;have hc:=a5.o (nQ S near (places.take k)) (places.getD k 0) wr T.o;have TK:=HT.o k O;rw[<- TK] at hc;have HC:Hid _:=hc;clear hc TK E;generalize places.getD k 0=y at *
   go_wp2_with fail
   refine yj HC.o ?_;rintro e w2 ⟨rfl,I2⟩
   go_wp2
   go_roundg (L-(k+1))
   case measure=>omega
   case rel=>exact⟨k+1,by omega,by omega,by go_num,I2⟩
  ·have b2:k=L:=(by omega);subst b2;obtain⟨hO,_,_,v,hv,F⟩:=T.o;have cb:=cZ hv
   have OW:Hid (wr.ownsRow w.heap.size 3 1 v R.length (R.map (Value.int .i64))):=by
    rw[HE.o];exact JE F (by omega)
   have SM:Hid (R.length<=n):=(by show _<=_;rw[HE.o];exact T.small);clear hO hv F E
   go_wp2
   go_ret;exact⟨v,rfl,a6.o,OW.o,SM.o⟩
def uN(w:Wd)(b o:Nat)(x:Cl):Prop :=
 w.cell? ⟨b,o,none⟩=some (.int .i64 x.n)/\∃ ka kc,w.cell? ⟨b,o+1,none⟩=some (.slice ka x.ks.length kc)/\aG w ka x.ks
theorem uN.below{b o:Nat}{x:Cl}(h:uN w b o x)(hb:Bl w w'):uN w' b o x:=by
 obtain⟨c0,ka,kc,c1,D⟩:=h;exact⟨aA c0 hb,ka,kc,aA c1 hb,D.below hb⟩
def aO(w:Wd)(a:OA)(G:List Cl):Prop :=
 ∀ i,i<G.length->∃ b o,a=some ⟨b,o,none⟩/\uN w b (o+i*2) (cl G i)
theorem aO.below{a:OA}(h:aO w a G)(hb:Bl w w'):aO w' a G:=fun i hi=>by
 obtain⟨b,o,e,hn⟩:=h i hi;exact⟨b,o,e,hn.below hb⟩
def fK(G:List Cl):Prop:=∀ i,i<G.length->(cl G i).ks.length<=9223372036854775807
def bF(G:List Cl):Int:=if 24<G.length then 1 else cellsE G.length G
theorem Ib(x:Int)(m b:Nat)(w:Wd)(D:m<=24)(hc:w.cell? ⟨b,0,none⟩=some (.int .i64 (m:Int))) :
  yO 131 #[.int .i64 x,.pointer (some ⟨b,0,none⟩)] w fun e w' => e=.returned (.bool (!decide (0<=x/\x<=(m:Int)-1)))/\w' = w:=by
 have hw:=gU x 0 ((m:Int)-1);generalize decide (0<=x/\x<=(m:Int)-1)=r at hw
 go_enter func131,ntmps131
 go_wp2_with (go_at_call 66;refine(hw _).mono ?_;rintro e w' ⟨rfl,rfl⟩)
 go_ret;exact⟨rfl,rfl⟩
theorem Ic(x:Cl)(ka:OA)(kc m:Nat)(w:Wd)(hm:m<=24)(E:x.ks.length<=9223372036854775807)(D:aG w ka x.ks) :
  yO 97 #[.agg #[.int .i64 x.n,.slice ka x.ks.length kc],.int .i64 (m:Int)] w fun e w' => e=.returned (.int .i64 (iF m x))/\Below w.heap.size w w' := by
 unfold iF;by_cases h1:x.n < -1000000\/1000000<x.n
 ·rw[ye h1];have hw:=fun W=>zX x.n (-1000000) 1000000 W h1;clear D h1;generalize x.ks.length=l at *;generalize x.n=U at *
  go_enter func97,ntmps97
  go_wp2_with (go_at_call 66;refine(hw _).mono ?_;rintro e w' ⟨rfl,rfl⟩)
  go_ret;exact⟨rfl,aM _ _ _⟩
 ·rw[yd h1];have hw:=fun W=>wH x.n (-1000000) 1000000 W (by omega) (by omega);by_cases I:8<x.ks.length
  ·rw[ye I];clear D h1;generalize x.ks.length=l at *;generalize x.n=U at *;have h3:(8:Int)<(l:Int):=by omega
   go_enter func97,ntmps97
   go_wp2_with (go_at_call 66;refine(hw _).mono ?_;rintro e w' ⟨rfl,rfl⟩)
   go_ret;exact⟨rfl,aM _ _ _⟩
  ·rw[yd I]
   have O:∀ w1:World,w1.cell? ⟨w.heap.size+1,0,none⟩=some (.int .i64 (m:Int))->wG 131 #[.pointer (some ⟨w.heap.size+1,0,none⟩)] (fun k=>!decide (0<=k/\k<=(m:Int)-1)) w1:=fun w1 h1 y w2 J =>
    (Ib y m (w.heap.size+1) w2 hm (aA h1 J)).mono (fun e w3 h=>⟨h.1,by rw[h.2];exact yv _ _⟩)
   have d3:=fun(W:Wd) (hk:aG W ka x.ks) (hc:W.cell? ⟨w.heap.size+1,0,none⟩=some (.int .i64 (m:Int)))=>PD 131 #[.pointer (some ⟨w.heap.size+1,0,none⟩)] (fun k=>!decide (0<=k/\k<=(m:Int)-1)) ka kc x.ks W E hk (yM func131 (by kernel_rfl) rfl) (O W hc);have K2:Hid (∀ F T,aG ((w.alloc F).alloc T) ka x.ks):=fun F T=>D.below (aM _ _ _);have M:Hid _:=d3;have Z:Hid (∀ F,((w.alloc F).alloc (.cells #[.int .i64 (m:Int)] 3)).cell? ⟨w.heap.size+1,0,none⟩=some (.int .i64 (m:Int))):=fun F=>fF w _ _ 0 _ rfl;clear D O d3 h1;generalize (x.ks.any fun k=>!decide (0<=k/\k<=(m:Int)-1))=b3 at *;obtain⟨l,hl⟩:∃ l,x.ks.length=l:=⟨_,rfl⟩;rw[hl] at M I E |-;clear hl;generalize x.n=U at *;have h3:¬ (8:Int)<(l:Int):=(by omega);cases b3
   all_goals
    go_enter func97,ntmps97
    go_wp2_with (first|(go_at_call 66;refine(hw _).mono ?_;rintro e w' ⟨rfl,rfl⟩)|(go_at_call 132;refine(M _ (K2 _ _) (Z _)).mono ?_;rintro e w' ⟨rfl,hb⟩))
    go_ret;exact⟨rfl,(aM _ _ _).trans (hb.mono (by simp;omega))⟩
theorem Ie{k:Nat}(h:k<G.length):G.drop k=cl G k :: G.drop (k+1):=by
 rw[kC h];exact List.drop_eq_getElem_cons h
theorem CE(a:OA)(c:Nat)(G:List Cl)(w:Wd)(hN:G.length<=9223372036854775807)(hB:fK G)(hS:aO w a G) :
  yO 64 #[.agg #[.slice a G.length c]] w fun e w' => e=.returned (.int .i64 (bF G))/\Below w.heap.size w w' := by
 unfold bF;by_cases F:24<G.length
 ·rw[ye F];generalize G.length=n at *;clear hS hB;have M:(24:Int)<(n:Int):=by omega
  go_enter func64,ntmps64
  go_wp2
  go_ret;exact⟨rfl,aB _ _⟩
 ·rw[yd F];have HS:Hid (aO w a G):=hS;have Z:Hid (∀ i,i<G.length->∀ ka kc W,aG W ka (cl G i).ks->Calls _ _ _ _ _):=fun i hi ka kc W hW=>Ic (cl G i) ka kc G.length W (by omega) (hB i hi) hW;have DR:Hid (∀ k,k<G.length->G.drop k=cl G k :: G.drop (k+1)):=fun k hk=>Ie hk;have DN:Hid (G.drop G.length=[]):=List.drop_length;have E0:Hid (cellsE G.length G=cellsE G.length (G.drop 0)):=rfl;clear hS hB;obtain⟨E,hR⟩:∃ r,cellsE G.length G=r:=⟨_,rfl⟩;rw[hR] at E0 |-;clear hR;obtain⟨n,hn⟩:∃ n,G.length=n:=⟨_,rfl⟩;have HN:Hid (G.length=n):=hn;rw[hn] at hN F Z DR DN E0 |-;clear hn;have M:¬ (24:Int)<(n:Int):=by omega
  go_enter func64,ntmps64
  go_wp2_with fail
  go_loopg [13] n (fun g s13 wr=>∃ k:Nat,k<=n/\n-k<=g/\s13=.int .i64 k/\Hid (Bl w wr)/\wr.cell? ⟨w.heap.size,0,none⟩=some (.slice a n c)/\Hid (E=cellsE n (G.drop k)))
  case atStart=>exact⟨0,by omega,by omega,rfl,aB _ _,by go_simp,E0⟩
  case round =>
   obtain⟨k,hk,hg,rfl,HB,lb,A⟩:=hrel;have b0:=yi _ _ lb;by_cases O:k<n
   ·have a9:(k:Int)<(n:Int):=(by omega);obtain⟨b,o,rfl,c0,ka,kc,c1,a6⟩:=(HS.below HB) k (by rw[HN.o];exact O);have I:Hid _:=fun W hW=>Z.o k O ka kc W hW;have KS:Hid (∀ o1,aG (wr.alloc o1) ka (cl G k).ks):=fun o1=>a6.below (aB _ _)
    have T:Hid (E=if iF n (cl G k)=0 then cellsE n (G.drop (k+1)) else iF n (cl G k)):=by
     show _=_;rw[A.o,DR.o k O];rfl
    clear a6 A;generalize cl G k=x at *;obtain⟨xn,a7⟩:=x;dsimp only at c0 c1;obtain⟨ev,a5⟩:∃ z,iF n ⟨xn,a7⟩=z:=⟨_,rfl⟩;rw[a5] at I T;obtain⟨l,hl⟩:∃ z,a7.length=z:=⟨_,rfl⟩;dsimp only at I;rw[hl] at I c1;clear a5 hl
    go_wp2_with fail
    refine yj (I _ (KS _)) ?_;rintro e w1 ⟨rfl,hb⟩;have J:Bl wr w1:=(aB _ _).trans (hb.mono (by simp));have U:Hid (Bl w w1):=HB.trans (J.mono HB.size);have a8:=aA lb J;clear hb J lb;by_cases hz:ev=0
    ·subst hz;have D:Hid (E=cellsE n (G.drop (k+1))):=(by show _=_;rw[T.o,ye rfl]);clear T
     go_wp2_with fail
     go_roundg (n-(k+1))
     case measure=>omega
     case rel=>exact⟨k+1,by omega,by omega,by go_num,U,a8,D⟩
    ·have b1:(ev == 0)=false:=(by simp[hz]);have b2:decide (ev=0)=false:=yH hz;have D:Hid (E=ev):=(by show _=_;rw[T.o,yd hz]);clear T
     go_wp2_with fail
     go_ret;exact⟨by rw[D.o];rfl,U.o⟩
   ·have:k=n:=(by omega);subst this;have D:Hid (E=0):=(by show _=_;rw[A.o,DN.o];rfl);clear A
    go_wp2_with fail
    go_ret;exact⟨by rw[D.o];rfl,HB.o⟩
theorem TV(x y:Cl):x=y↔(x.n=y.n/\x.ks=y.ks):=by
 constructor
 ·rintro rfl;exact⟨rfl,rfl⟩
 ·obtain⟨a,b⟩:=x;obtain⟨c,d⟩:=y;rintro⟨rfl,rfl⟩;rfl
def CG(K:Nat):Prop:=∀ (x y:Cl) (ka D:OA) (kc E:Nat) (W:Wd),x.ks.length<=9223372036854775807->aG W ka x.ks->aG W D y.ks ->
 yO K #[.agg #[.int .i64 x.n,.slice ka x.ks.length kc],.agg #[.int .i64 y.n,.slice D y.ks.length E]] W fun e w' => ∃ r:Bool,e=.returned (.bool r)/\Below W.heap.size W w' /\(r=true↔x=y)
theorem TW(K:Nat)(eg:∀ args w,(callFunc K args).run prog w=.ok (.enter K args) w)(hK:CG K)(a Z:OA)(c c' : Nat)(S D:List Cl)(w:Wd)(hN:S.length<=9223372036854775807)(hB:fK S)(h1:aO w a S)(h2:aO w Z D) :
  yO 45 #[.slice a S.length c,.slice Z D.length c', .func (.func K) #[] #[]] w fun e w' => ∃ r:Bool,e=.returned (.bool r)/\Below w.heap.size w w' /\(r=true↔S=D):=by
 by_cases hl:S.length=D.length
 ·have E1:Hid ((∀ i,i<S.length->cl S i=cl D i)->S=D):=fun h=>Hq hl h;have E2:Hid (∀ i,cl S i≠cl D i->S≠D):=fun i h e=>h (by rw[e]);have H1:Hid (aO w a S):=h1;have H2:Hid (aO w Z D):=h2;have HB:Hid (fK S):=hB;have HK:Hid (CG K):=hK;have HL:Hid (D.length=S.length):=hl.symm;rw[<- hl];clear h1 h2 hB hl hK;generalize hn:S.length=n at *;have HN:Hid _:=hn;clear hn
  go_enter func45,ntmps45
  go_wp2
  go_loopg [17] n (fun g s17 wr=>∃ k:Nat,k<=n/\n-k<=g/\s17=.int .i64 k/\Below w.heap.size w wr/\Hid (∀ i,i<k->cl S i=cl D i))
  case atStart=>exact⟨0,by omega,by omega,rfl,yv _ _,fun i hi=>by omega⟩
  case round =>
   obtain⟨k,hk,hg,rfl,hb,A⟩:=hrel;by_cases E:k<n
   ·have a8:(k:Int)<(n:Int):=(by omega);obtain⟨b,o,rfl,c0,ka,kc,c5,I⟩:=(H1.below hb) k (by rw[HN.o];exact E);obtain⟨b', o', rfl,e0,a5,a6,e5,J⟩:=(H2.below hb) k (by rw[HL.o];exact E);have a9:=yi _ _ c0;have a7:=yi _ _ e0;have d1:=fun o1 o2=>HK.o (cl S k) (cl D k) ka a5 kc a6 ((wr.alloc o1).alloc o2) (HB k (by rw[HN.o];exact E)) (I.below (aM _ _ _)) (J.below (aM _ _ _));have O:Hid _:=E2.o k
    have KK:Hid (cl S k=cl D k->∀ i,i<k+1->cl S i=cl D i):=fun h i hi=>by
     by_cases e:i=k
     ·subst e;exact h
     ·exact A.o i (by omega)
    clear I J;have D1:Hid _:=d1;clear d1;generalize cl S k=x at *;generalize cl D k=y at *
    go_wp2_with fail
    refine(D1 _ _).mono ?_;rintro e w3 ⟨r,rfl,F,M⟩
    cases r with
    | true =>
     have U:Hid _:=M.1 rfl;clear M
     go_wp2
     go_roundg (n-(k+1))
     case measure=>omega
     case rel=>exact⟨k+1,by omega,by omega,by go_num,(hb.trans ((aM _ _ _).mono hb.size)).trans (F.mono (by simp;have:=hb.size;omega)),KK.o U.o⟩
    | false =>
     have U:Hid (S≠D):=O.o fun e=>by have:=M.2 e;cases this
     clear M
     go_wp2
     go_ret;exact⟨false,rfl,(hb.trans ((aM _ _ _).mono hb.size)).trans (F.mono (by simp;have:=hb.size;omega)),⟨fun h=>(by cases h),fun h=>absurd h U.o⟩⟩
   ·have:k=n:=(by omega);subst this
    go_wp2
    go_ret;exact⟨true,rfl,hb,⟨fun _=>E1.o A.o,fun _=>rfl⟩⟩
 ·have b0:¬ ((S.length:Int)=(D.length:Int)):=by omega
  have T:Hid (S≠D):=fun e=>hl (by rw[e]);clear h1 h2 hB hK;generalize S.length=n at *;generalize D.length=n' at *
  go_enter func45,ntmps45
  go_wp2
  go_ret;exact⟨false,rfl,yv _ _,⟨fun h=>(by cases h),fun h=>absurd h T.o⟩⟩
theorem Ig:CG 46:=by
 intro x y ka U kc a5 W M h1 h2;have F:Hid (x=y↔(x.n=y.n/\x.ks=y.ks)):=TV x y;have d:=fun(w' : World) (i1:aG w' ka x.ks) (i2:aG w' U y.ks)=>wI ka U kc a5 x.ks y.ks w' M i1 i2;have D:Hid _:=d;have I1:Hid (∀ o1 o2,aG ((W.alloc o1).alloc o2) ka x.ks):=fun o1 o2=>h1.below (aM _ _ _);have I2:Hid (∀ o1 o2,aG ((W.alloc o1).alloc o2) U y.ks):=fun o1 o2=>h2.below (aM _ _ _);clear h1 h2 d;obtain⟨xn,I⟩:=x;obtain⟨yn,J⟩:=y;dsimp only at F D I1 I2 |-;obtain⟨xl,O⟩:∃ z,I.length=z:=⟨_,rfl⟩;obtain⟨yl,T⟩:∃ z,J.length=z:=⟨_,rfl⟩;rw[O,T] at D;rw[O,T];clear O T M;by_cases he:xn=yn
 ·have E:Hid ((⟨xn,I⟩:Cl)=⟨yn,J⟩↔I=J):=by show _↔_;rw[F.o];simp[he]
  subst he;clear F
  go_enter func46,ntmps46
  go_wp2_with fail
  refine yj (D _ (I1 _ _) (I2 _ _)) ?_;rintro e w1 ⟨rfl,hb⟩;have HB:Hid (Bl W w1):=(aM _ _ _).trans (hb.mono (by simp;omega));clear hb;by_cases Z:I=J
  ·have HR:Hid _:=E.o.2 Z;rw[yI Z];clear Z E
   go_wp2
   go_ret;exact⟨true,rfl,HB.o,⟨fun _=>HR.o,fun _=>rfl⟩⟩
  ·have HR:Hid _:=fun h=>Z (E.o.1 h);rw[yH Z];clear Z E
   go_wp2
   go_ret;exact⟨false,rfl,HB.o,⟨fun h=>(by cases h),fun h=>absurd h HR.o⟩⟩
 ·have hd:decide (xn=yn)=false:=yH he;have a6:(xn == yn)=false:=by simp[he]
  have HR:Hid (¬ (⟨xn,I⟩:Cl)=⟨yn,J⟩):=fun h=>he (F.o.1 h).1;clear F
  go_enter func46,ntmps46
  go_wp2_with fail
  go_ret;exact⟨false,rfl,aM _ _ _,⟨fun h=>(by cases h),fun h=>absurd h HR.o⟩⟩
theorem Ih(a E:OA)(c F:Nat)(S D:List Cl)(w:Wd)(U:S.length<=9223372036854775807)(J:fK S)(h1:aO w a S)(I:aO w E D) :
  yO 15 #[.agg #[.slice a S.length c],.agg #[.slice E D.length F]] w fun e w' => ∃ r:Bool,e=.returned (.bool r)/\Below w.heap.size w w' /\(r=true↔S=D):=by
 have O:Hid _:=fun Z o2=>TW 46 (yM func46 (by kernel_rfl) rfl) Ig a E c F S D ((w.alloc Z).alloc o2) U J (h1.below (aM _ _ _)) (I.below (aM _ _ _));clear h1 I J;generalize S.length=n at *;generalize D.length=n' at *
 go_enter func15,ntmps15
 go_wp2_with (go_at_call 45;refine(O _ _).mono ?_;rintro e w1 ⟨r,rfl,hb,M⟩;have T:Hid _:=M;clear M)
 go_ret;exact⟨r,rfl,(aM _ _ _).trans (hb.mono (by simp;omega)),T.o⟩
theorem Ii:CG 88:=by
 intro x y ka U kc a5 W M h1 h2;have F:Hid (x=y↔(x.n=y.n/\x.ks=y.ks)):=TV x y;have d:=fun(w' : World) (i1:aG w' ka x.ks) (i2:aG w' U y.ks)=>wI ka U kc a5 x.ks y.ks w' M i1 i2;have D:Hid _:=d;have I1:Hid (∀ o1 o2,aG ((W.alloc o1).alloc o2) ka x.ks):=fun o1 o2=>h1.below (aM _ _ _);have I2:Hid (∀ o1 o2,aG ((W.alloc o1).alloc o2) U y.ks):=fun o1 o2=>h2.below (aM _ _ _);clear h1 h2 d;obtain⟨xn,I⟩:=x;obtain⟨yn,J⟩:=y;dsimp only at F D I1 I2 |-;obtain⟨xl,O⟩:∃ z,I.length=z:=⟨_,rfl⟩;obtain⟨yl,T⟩:∃ z,J.length=z:=⟨_,rfl⟩;rw[O,T] at D;rw[O,T];clear O T M;by_cases he:xn=yn
 ·have E:Hid ((⟨xn,I⟩:Cl)=⟨yn,J⟩↔I=J):=by show _↔_;rw[F.o];simp[he]
  subst he;clear F
  go_enter func88,ntmps88
  go_wp2_with fail
  refine yj (D _ (I1 _ _) (I2 _ _)) ?_;rintro e w1 ⟨rfl,hb⟩;have HB:Hid (Bl W w1):=(aM _ _ _).trans (hb.mono (by simp;omega));clear hb;by_cases Z:I=J
  ·have HR:Hid _:=E.o.2 Z;rw[yI Z];clear Z E
   go_wp2
   go_ret;exact⟨true,rfl,HB.o,⟨fun _=>HR.o,fun _=>rfl⟩⟩
  ·have HR:Hid _:=fun h=>Z (E.o.1 h);rw[yH Z];clear Z E
   go_wp2
   go_ret;exact⟨false,rfl,HB.o,⟨fun h=>(by cases h),fun h=>absurd h HR.o⟩⟩
 ·have hd:decide (xn=yn)=false:=yH he;have a6:(xn == yn)=false:=by simp[he]
  have HR:Hid (¬ (⟨xn,I⟩:Cl)=⟨yn,J⟩):=fun h=>he (F.o.1 h).1;clear F
  go_enter func88,ntmps88
  go_wp2_with fail
  go_ret;exact⟨false,rfl,aM _ _ _,⟨fun h=>(by cases h),fun h=>absurd h HR.o⟩⟩
theorem TY(a E:OA)(c F:Nat)(S D:List Cl)(w:Wd)(U:S.length<=9223372036854775807)(J:fK S)(h1:aO w a S)(I:aO w E D) :
  yO 52 #[.agg #[.slice a S.length c],.agg #[.slice E D.length F]] w fun e w' => ∃ r:Bool,e=.returned (.bool r)/\Below w.heap.size w w' /\(r=true↔S=D):=by
 have O:Hid _:=fun Z o2=>TW 88 (yM func88 (by kernel_rfl) rfl) Ii a E c F S D ((w.alloc Z).alloc o2) U J (h1.below (aM _ _ _)) (I.below (aM _ _ _));clear h1 I J;generalize S.length=n at *;generalize D.length=n' at *
 go_enter func52,ntmps52
 go_wp2_with (go_at_call 45;refine(O _ _).mono ?_;rintro e w1 ⟨r,rfl,hb,M⟩;have T:Hid _:=M;clear M)
 go_ret;exact⟨r,rfl,(aM _ _ _).trans (hb.mono (by simp;omega)),T.o⟩
structure Fr where
 p:Int
 o:Int
 m:Int
 t:Int
 g:Bool
 deriving DecidableEq
def fr(L:List Fr)(i:Nat):Fr:=L.getD i ⟨0,0,0,0,false⟩
theorem rZ(h:i<L.length):fr L i=L[i]:=aJ L _ h
theorem Js{M:List Fr}(hl:L.length=M.length)(h:∀ i,i<L.length->fr L i=fr M i):L=M:=by
 apply List.ext_getElem hl;intro i h1 D;have:=h i h1
 rwa [rZ h1,rZ D] at this
theorem UN{P:Int->Prop}(h:∀ a:Fin 8,P ((a.val:Nat):Int)){a:Int}(h0:0<=a)(D:a<=7):P a:=by
 obtain⟨n,rfl⟩:=Int.eq_ofNat_of_zero_le h0;exact h ⟨n,by omega⟩
def jR(x:Fr)(k:Nat):Prop:=if k=0 then x.p = -1 else 0<=x.p/\x.p<=(k:Int)-1
def nU(x:Fr):Prop:=(0<=x.o/\x.o<=9)/\(0<=x.m/\x.m<=7)/\(0<=x.t/\x.t<=1000)
def kM(x y:Fr):Prop:=bits .andNot .i64 x.m y.m=0/\(x.g=true\/y.g=false)
instance (x:Fr) (k:Nat):Decidable (jR x k):=by unfold jR;infer_instance
instance (x:Fr):Decidable (nU x):=by unfold nU;infer_instance
instance (x y:Fr):Decidable (kM x y):=by unfold kM;infer_instance
def frE(L:List Fr)(k:Nat):Int:=if ¬ jR (fr L k) k then 4 else if ¬ nU (fr L k) then 2 else if 0<k/\¬ kM (fr L k) (fr L (fr L k).p.toNat) then 3 else 0
def sD(L:List Fr):Nat->Nat->Int
 | _,0=>0
 | i,n+1=>if frE L i=0 then sD L (i+1) n else frE L i
def jS(L:List Fr)(i:Nat):Int:=sD L i (L.length-i)
def bS(L:List Fr):Int:=if 8<L.length then 1 else jS L 0
theorem Jt(h:i<L.length):jS L i=if frE L i=0 then jS L (i+1) else frE L i:=by
 unfold jS;obtain⟨n,hn⟩:∃ n,L.length-i=n+1:=⟨L.length-i-1,by omega⟩;rw[hn,sD,show L.length-(i+1)=n by omega]
theorem Ju(h:L.length<=i):jS L i=0:=by
 unfold jS;rw[show L.length-i=0 by omega,sD]
structure gL (L:List Fr):Prop where
 few:L.length<=8
 ok:∀ i,i<L.length->frE L i=0
theorem UO:∀ n i,sD L i n=0↔∀ j,i<=j->j<i+n->frE L j=0
 | 0,i=>by simp[sD];omega
 | n+1,i=>by
  rw[sD];by_cases h:frE L i=0
  ·rw[ye h,UO n (i+1)];constructor
   ·intro H j h1 D;by_cases e:j=i
    ·rw[e];exact h
    ·exact H j (by omega) (by omega)
   ·intro H j h1 D;exact H j (by omega) (by omega)
  ·rw[yd h];constructor
   ·intro H;exact absurd H h
   ·intro H;exact H i (yr _) (by omega)
theorem xW:bS L=0↔gL L:=by
 unfold bS jS;by_cases h:8<L.length
 ·rw[ye h];exact⟨fun e=>by omega,fun R=>absurd R.few (by omega)⟩
 ·rw[yd h,UO];exact⟨fun H=>⟨by omega,fun i hi=>H i (by omega) (by omega)⟩,fun R j _ D=>R.ok j (by omega)⟩
theorem pF{k:Nat}:frE L k=0↔jR (fr L k) k/\nU (fr L k)/\(0<k->kM (fr L k) (fr L (fr L k).p.toNat)):=by
 unfold frE;by_cases h1:jR (fr L k) k
 ·rw[yd (yL h1)];by_cases E:nU (fr L k)
  ·rw[yd (yL E)];by_cases D:0<k/\¬ kM (fr L k) (fr L (fr L k).p.toNat)
   ·rw[ye D];exact⟨fun e=>by omega,fun⟨_,_,h⟩=>absurd (h D.1) D.2⟩
   ·rw[yd D];refine⟨fun _=>⟨h1,E,fun h0=>?_⟩,fun _=>rfl⟩;by_cases F:kM (fr L k) (fr L (fr L k).p.toNat)
    ·exact F
    ·exact absurd ⟨h0,F⟩ D
  ·rw[ye E];exact⟨fun e=>by omega,fun⟨_,h,_⟩=>absurd h E⟩
 ·rw[ye h1];exact⟨fun e=>by omega,fun⟨h,_⟩=>absurd h h1⟩
theorem gL.first(R:gL L)(h:0<L.length):(fr L 0).p = -1:=by
 have:=(pF.1 (R.ok 0 h)).1;unfold jR at this;simpa using this
theorem gL.up(R:gL L)(h:i<L.length)(h0:0<i):∃ q:Nat,(fr L i).p=q/\q<i/\kM (fr L i) (fr L q):=by
 obtain⟨h1,_,F⟩:=pF.1 (R.ok i h);unfold jR at h1;rw[yd (by omega)] at h1;obtain⟨q,E⟩:=Int.eq_ofNat_of_zero_le h1.1;have D:=F h0;rw[E] at D;refine⟨q,E,by omega,D⟩
theorem gL.low(R:gL L)(h:i<L.length):(fr L i).p<i:=by
 by_cases h0:0<i
 ·obtain⟨q,E,D,_⟩:=R.up h h0;omega
 ·have:i=0:=by omega
  subst this;rw[R.first h];omega
theorem gL.may(R:gL L)(h:i<L.length):0<=(fr L i).m/\(fr L i).m<=7:=(pF.1 (R.ok i h)).2.1.2.1
def eZ(L:List Fr):Nat->Int->Int->Bool
 | 0,_,_=>false
 | n+1,k,top=>if 0<=k/\k<L.length then (if k=top then true else eZ L n (fr L k.toNat).p top) else false
def inF(L:List Fr)(k top:Int):Bool:=eZ L L.length k top
theorem vC{n:Nat}{top:Int}(h:¬ (0<=k/\k<L.length)):eZ L n k top=false:=by
 cases n with
 | zero=>rfl
 | succ n=>rw[eZ,yd h]
theorem UQ(R:gL L)(top:Int):∀ (n m:Nat) (k:Int),k<n->k<m->eZ L n k top=eZ L m k top
 | 0,m,k,h1,E=>by rw[vC (by omega),vC (by omega)]
 | n+1,0,k,h1,E=>by rw[vC (by omega),vC (by omega)]
 | n+1,m+1,k,h1,E=>by
  rw[eZ,eZ];by_cases D:0<=k/\k<L.length
  ·rw[ye D,ye D];by_cases e:k=top
   ·rw[ye e,ye e]
   ·rw[yd e,yd e];have:=R.low (i:=k.toNat) (by omega);exact UQ R top n m _ (by omega) (by omega)
  ·rw[yd D,yd D]
theorem UR{k:Nat}(h:k<L.length):inF L k k=true:=by
 unfold inF;obtain⟨n,hn⟩:∃ n,L.length=n+1:=⟨L.length-1,by omega⟩;rw[hn,eZ,ye (by omega),ye rfl]
theorem DJ(R:gL L){top:Int}(h:i<L.length)(D:(i:Int)≠top):inF L i top=inF L (fr L i).p top:=by
 unfold inF;have hl:=R.low h;obtain⟨n,hn⟩:∃ n,L.length=n+1:=⟨L.length-1,by omega⟩
 have e:eZ L L.length (i:Int) top=eZ L n (fr L i).p top:=by
  rw[hn,eZ,ye (by omega),yd D,yk]
 rw[e];exact UQ R top _ _ _ (by omega) (by omega)
def bC(L:List Fr)(k:Int):Int:=if ¬ (0<=k/\k<L.length) then 4 else if (fr L k.toNat).g=true then 5 else 0
def dR(L:List Fr)(k:Int):Int:=if bS L=0 then bC L k else bS L
theorem DU(h:bC L k=0):∃ q:Nat,k=q/\q<L.length/\(fr L q).g=false:=by
 unfold bC at h;by_cases h1:0<=k/\k<L.length
 ·rw[yd (yL h1)] at h;obtain⟨q,rfl⟩:=Int.eq_ofNat_of_zero_le h1.1
  cases hg:(fr L q).g with
  | true=>rw[ye (by exact hg)] at h;cases h
  | false=>exact⟨q,rfl,by omega,hg⟩
 ·rw[ye h1] at h;cases h
theorem xX(h:dR L k=0):gL L/\∃ q:Nat,k=q/\q<L.length/\(fr L q).g=false:=by
 unfold dR at h;by_cases h1:bS L=0
 ·rw[ye h1] at h;exact⟨xW.1 h1,DU h⟩
 ·rw[yd h1] at h;exact absurd h h1
def fV(L:List Fr)(k:Int):List Fr:=(List.range L.length).map fun i=>{ fr L i with g:=(fr L i).g || inF L i k }
theorem mH(L:List Fr)(k:Int):(fV L k).length=L.length:=by unfold fV;simp
theorem vD(h:i<L.length):fr (fV L k) i={ fr L i with g:=(fr L i).g || inF L i k }:=by
 rw[rZ (by rw[mH];exact h)];unfold fV;simp
theorem UT(R:gL L)(k:Int):gL (fV L k):=by
 refine⟨by rw[mH];exact R.few,fun i hi=>?_⟩;rw[mH] at hi;obtain⟨a1,a2,a3⟩:=pF.1 (R.ok i hi);rw[pF,vD hi];refine⟨a1,a2,fun h0=>?_⟩;dsimp only;obtain⟨q,E,F,D⟩:=R.up hi h0;rw[E,yk,vD (by omega)];refine⟨D.1,?_⟩;dsimp only;by_cases e:(i:Int)=k
 ·left;subst e;rw[UR hi,Bool.or_true]
 ·rw[DJ R hi e,E];rcases D.2 with h|h
  ·left;rw[h,Bool.true_or]
  ·rw[h]
   cases hin:inF L (q:Int) k with
   | true=>left;rw[Bool.or_true]
   | false=>right;rfl
def gM(L:List Fr)(k:Int):Nat:=L.countP (fun f=>decide (f.p=k) && !f.g)
theorem Jv{j:Nat}(k:Int)(h:j<L.length):gM (L.take (j+1)) k=gM (L.take j) k+(if (fr L j).p=k/\(fr L j).g=false then 1 else 0):=by
 unfold gM;rw[List.take_succ_eq_append_getElem h,List.countP_append,rZ h];by_cases h1:L[j].p=k
 ·cases hg:L[j].g <;> simp[hg,h1]
 ·simp[h1]
