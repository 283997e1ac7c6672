/-
  x
-/
import Derived.Test.YtcbcpomacdngmaaGreatQ13
namespace Go.Proofs.YtcbcpomacdngmaaGreat
set_option maxRecDepth 100000
set_option maxHeartbeats 4000000
set_option linter.unusedVariables false
open Go.RowKit
theorem zrH(x:Nd)(k:Value)(w:World) :
  Calls Tryz.prog 219 #[.agg #[.bool x.u,.int .i64 x.n,.int .i64 x.t,.int .i64 x.m,.int .i64 x.p,k,.int .i64 x.h,.bool x.c]] w fun e w' => e=.returned (.int .i64 x.p)/\Below w.heap.size w w' := by
 go_enter Tryz.func219,Tryz.ntmps219
 go_wp2
 go_ret;exact⟨rfl,(yr _ _).alloc (yk _) _⟩
theorem zoj(W0 W:World)(a:Option Addr)(c:Nat)(S:List Nd)(near:Bool)(F D E gs:Nat)(hN:S.length<=24)(hS:zai W0 a S)(U:Below W0.heap.size W0 W)(h1:W0.heap.size<=D)(h2:W0.heap.size<=gs)
  (O:F<W.heap.size) (J:D<W.heap.size) (T:gs<W.heap.size) (M:E<W.heap.size) (n1:F≠D) (n2:F≠gs) (n3:E≠D) (n4:E≠gs) (n5:D≠gs)
  (cs:W.cell? ⟨F,0,none⟩=some (.slice (some ⟨gs,0,none⟩) S.length S.length)) (Z:W.cell? ⟨E,0,none⟩=some (.bool near)) (st:(Nat->Bool) × List Int) (place:Int) (w:World) (h:zlp W D gs S.length st w) :
  Calls Tryz.prog 150 #[.agg #[.slice a S.length c],.int .i64 place,.func (.func 219) #[] #[],.func (.func 220) #[] #[.pointer (some ⟨F,0,none⟩),.pointer (some ⟨D,0,none⟩),.pointer (some ⟨E,0,none⟩)]] w fun e w' => e=.returned (.tuple #[])/\zlp W D gs S.length (zgV S near st place) w' := by
 refine(zmE a c S w place 219 220 #[.pointer (some ⟨F,0,none⟩),.pointer (some ⟨D,0,none⟩),.pointer (some ⟨E,0,none⟩)] Nd.p (zbn near) (zlp W D gs S.length) (fun k=>k=D\/k=gs\/W.heap.size<=k) st (by omega)
  (fun st w1 h=>hS.below (U.trans (h.1.below (B:=W0.heap.size) U.size (fun k I=>by rcases I with I|I <;> omega))))
  (fun st w1 w2 h hb=>h.below hb)
  (yK Tryz.func219 (by kernel_rfl) rfl) (yK Tryz.func220 (by kernel_rfl) rfl)
  (fun x k w1=>zrH x k w1)
  (fun st x w1 h _ hx=>?_) h).mono ?_
 ·have hq:0<=x/\x<=(S.length:Int)-1:=of_decide_eq_true hx;obtain⟨j,rfl⟩:∃ j:Nat,x=(j:Int):=⟨x.toNat,by omega⟩;refine(zki W F D E gs S.length near st j w1 (by omega) (by omega) h O J T M n1 n2 n3 n4 n5 cs Z).mono ?_;rintro e w2 ⟨rfl,g1,g2,g3⟩;exact⟨rfl,g1,g2,fun k I=>g3 k _ _ I (by decide) (by decide) (by decide)⟩
 ·rintro e w' ⟨rfl,g1,_⟩;exact⟨rfl,g1⟩
theorem zqW(w:World)(D E o3 F I:Obj):Below w.heap.size w (((((w.alloc D).alloc E).alloc o3).alloc F).alloc I):=(((zas w D E o3).alloc (by simp;omega) _).alloc (by simp;omega) _)
theorem zsD(a:Option Addr)(c:Nat)(S:List Nd)(pa:Option Addr)(pc:Nat)(places:List Int)(near:Bool)(w:World)(hN:S.length<=24)(hS:zai w a S)(hL:places.length<=1000000)(hP:zak w pa places) :
  Calls Tryz.prog 213 #[.agg #[.slice a S.length c],.slice pa places.length pc,.bool near] w fun e w' => ∃ v,e=.returned v/\Below w.heap.size w w' /\ w'.ownsRow w.heap.size 3 1 v (zcT S near places).length ((zcT S near places).map (Value.int .i64))/\(zcT S near places).length<=S.length:=by
 have b5:=ztX S.length hN;have HS:Hid (zai w a S):=hS;have HP:Hid (zak w pa places):=hP;have HT:Hid (∀ k,k<places.length->zdR S near (places.take (k+1))=zgV S near (zdR S near (places.take k)) (places.getD k 0)):=fun k I=>zmw S near places k I;have CL:Hid (∀ W bs bf bn gs,_):=fun W bs bf bn gs=>fun(D:Below w.heap.size w W) h1 h2 b0 a8 b1 a9 n1 n2 n3 n4 n5 Z U st place W1 h=>zoj w W a c S near bs bf bn gs hN hS D h1 h2 b0 a8 b1 a9 n1 n2 n3 n4 n5 Z U st place W1 h;have H0:Hid (zdR S near (places.take 0)=(fun _=>false,[])):=rfl;have HE:Hid (zcT S near places=(zdR S near (places.take places.length)).2):=by show _=_;rw[List.take_length];rfl
 generalize zcT S near places=R at *;clear hS hP;generalize hn:S.length=n at *;have HN:Hid _:=hn;clear hn;generalize hl:places.length=L at *;have HL:Hid _:=hl;clear hl
 go_enter Tryz.func213,Tryz.ntmps213
 go_wp2
 obtain⟨W,D⟩:∃ W,W=(((((w.alloc (.cells #[.slice a n c] 43)).alloc (.cells #[.bool near] 4)).alloc (.cells (madeCells #[.bool false] n) 4)).alloc (.cells #[.slice (some ⟨w.heap.size+1+1,0,none⟩) n n] 259)).alloc (.cells #[.slice none 0 0] 48)):=⟨_,rfl⟩;rw[<- D];have hb:Below w.heap.size w W:=by rw[D];exact zqW _ _ _ _ _ _
 have hz:W.heap.size=w.heap.size+1+1+1+1+1:=by rw[D];simp
 have c0:W.cell? ⟨w.heap.size,0,none⟩=some (.slice a n c):=by rw[D];go_simp
 have U:W.cell? ⟨w.heap.size+1,0,none⟩=some (.bool near):=by rw[D];go_simp
 have Z:W.cell? ⟨w.heap.size+1+1+1,0,none⟩=some (.slice (some ⟨w.heap.size+1+1,0,none⟩) n n):=by rw[D];go_simp
 have M:zlp W (w.heap.size+1+1+1+1) (w.heap.size+1+1) n (fun _=>false,[]) W:=by
  refine⟨Off.refl _ _,?_,⟨by simp,fun x hx=>by cases hx⟩,.slice none 0 0,?_,World.ownsRow_nil _ _ _ _⟩
  ·rw[D];have h0:=World.rowIs_made ((w.alloc (.cells #[.slice a n c] 43)).alloc (.cells #[.bool near] 4)) (.bool false) n 4;have h1:Below (w.heap.size+1+1+1) (((w.alloc (.cells #[.slice a n c] 43)).alloc (.cells #[.bool near] 4)).alloc (.cells (madeCells #[.bool false] n) 4)) (((((w.alloc (.cells #[.slice a n c] 43)).alloc (.cells #[.bool near] 4)).alloc (.cells (madeCells #[.bool false] n) 4)).alloc (.cells #[.slice (some ⟨w.heap.size+1+1,0,none⟩) n n] 259)).alloc (.cells #[.slice none 0 0] 48)):=((yr _ _).alloc (by simp) _).alloc (by first|(simp;done)|(simp;omega)) _;simp only[ys] at h0;exact h0.of_block (h1.block _ (by omega))
  ·rw[D];have:=yL ((((w.alloc (.cells #[.slice a n c] 43)).alloc (.cells #[.bool near] 4)).alloc (.cells (madeCells #[.bool false] n) 4)).alloc (.cells #[.slice (some ⟨w.heap.size+1+1,0,none⟩) n n] 259)) (.cells #[.slice none 0 0] 48);simpa using this
 have a7:Hid _:=M;have J:Hid (Below w.heap.size w W):=hb;have a5:Hid _:=CL.out W (w.heap.size+1+1+1) (w.heap.size+1+1+1+1) (w.heap.size+1) (w.heap.size+1+1) hb (by omega) (by omega) (by omega) (by omega) (by omega) (by omega) (by omega) (by omega) (by omega) (by omega) (by omega) Z U;have C0:Hid (∀ st w1,zlp W (w.heap.size+1+1+1+1) (w.heap.size+1+1) n st w1->w1.cell? ⟨w.heap.size,0,none⟩=some (.slice a n c)/\Below w.heap.size w w1/\w.heap.size<w1.heap.size):=fun st w1 h=>⟨(h.1.cell (p:=⟨w.heap.size,0,none⟩) (by show w.heap.size < _;omega) (by show ¬ (w.heap.size=w.heap.size+1+1+1+1\/w.heap.size=w.heap.size+1+1);omega)).trans c0,J.out.trans (h.1.below J.out.size (fun k I=>by rcases I with I|I <;> omega)),by have:=h.1.size;omega⟩;clear D hb c0 U Z M CL
 go_loopg [17] L (fun g1 s17 wr=>∃ k:Nat,k<=L/\L-k<=g1/\s17=.int .i64 k/\Hid (zlp W (w.heap.size+1+1+1+1) (w.heap.size+1+1) n (zdR S near (places.take k)) wr))
 case atStart=>exact⟨0,by omega,by omega,rfl,by rw[H0.out];exact a7⟩
 case round =>
  obtain⟨k,I,b4,rfl,T⟩:=hrel;obtain⟨c0,E,b7⟩:=C0.out _ _ T.out;have a6:Hid _:=E;by_cases O:k<L
  ·have b3:(k:Int)<(L:Int):=by omega
   obtain⟨pb,po,rfl,hp⟩:=(HP.out.below E) k (by rw[HL.out];exact O);have b6:=ye _ _ hp;have hc:=a5.out (zdR S near (places.take k)) (places.getD k 0) wr T.out;have TK:=HT.out k O;rw[<- TK] at hc;have HC:Hid _:=hc;clear hc TK E;generalize places.getD k 0=y at *
   go_wp2_with fail
   refine yi HC.out ?_;rintro e w2 ⟨rfl,I2⟩
   go_wp2
   go_roundg (L-(k+1))
   case measure=>omega
   case rel=>exact⟨k+1,by omega,by omega,by go_num,I2⟩
  ·have b2:k=L:=by omega
   subst b2;obtain⟨hO,_,_,v,hv,F⟩:=T.out;have cb:=zaJ hv
   have OW:Hid (wr.ownsRow w.heap.size 3 1 v R.length (R.map (Value.int .i64))):=by
    rw[HE.out];exact zfG F (by omega)
   have SM:Hid (R.length<=n):=by show _<=_;rw[HE.out];exact T.out.small
   clear hO hv F E
   go_wp2
   go_ret;exact⟨v,rfl,a6.out,OW.out,SM.out⟩
def zzv(w:World)(b o:Nat)(x:Cl):Prop :=
 w.cell? ⟨b,o,none⟩=some (.int .i64 x.n)/\∃ ka kc,w.cell? ⟨b,o+1,none⟩=some (.slice ka x.ks.length kc)/\zak w ka x.ks
theorem zzv.below{w w' : World}{b o:Nat}{x:Cl}(h:zzv w b o x)(D:Below w.heap.size w w'):zzv w' b o x:=by
 obtain⟨c0,ka,kc,c1,E⟩:=h;exact⟨zab c0 D,ka,kc,zab c1 D,E.below D⟩
def zaI(w:World)(a:Option Addr)(G:List Cl):Prop :=
 ∀ i,i<G.length->∃ b o,a=some ⟨b,o,none⟩/\zzv w b (o+i*2) (cl G i)
theorem zaI.below{w w' : World}{a:Option Addr}{G:List Cl}(h:zaI w a G)(D:Below w.heap.size w w'):zaI w' a G:=fun i hi=>by
 obtain⟨b,o,e,hn⟩:=h i hi;exact⟨b,o,e,hn.below D⟩
def zkb(G:List Cl):Prop:=∀ i,i<G.length->(cl G i).ks.length<=9223372036854775807
def zaA(G:List Cl):Int:=if 24<G.length then 1 else cellsE G.length G
theorem zrz(x:Int)(m b:Nat)(w:World)(E:m<=24)(hc:w.cell? ⟨b,0,none⟩=some (.int .i64 (m:Int))) :
  Calls Tryz.prog 131 #[.int .i64 x,.pointer (some ⟨b,0,none⟩)] w fun e w' => e=.returned (.bool (!decide (0<=x/\x<=(m:Int)-1)))/\w' = w:=by
 have D:=zaR x 0 ((m:Int)-1);generalize decide (0<=x/\x<=(m:Int)-1)=r at D
 go_enter Tryz.func131,Tryz.ntmps131
 go_wp2_with (go_at_call 66;refine(D _).mono ?_;rintro e w' ⟨rfl,rfl⟩)
 go_ret;exact⟨rfl,rfl⟩
theorem zly(x:Cl)(ka:Option Addr)(kc m:Nat)(w:World)(hm:m<=24)(E:x.ks.length<=9223372036854775807)(D:zak w ka x.ks) :
  Calls Tryz.prog 97 #[.agg #[.int .i64 x.n,.slice ka x.ks.length kc],.int .i64 (m:Int)] w fun e w' => e=.returned (.int .i64 (zfj m x))/\Below w.heap.size w w' := by
 unfold zfj;by_cases h1:x.n < -1000000\/1000000<x.n
 ·rw[yd h1];have I:=fun W=>zhv x.n (-1000000) 1000000 W h1;clear D h1;generalize x.ks.length=l at *;generalize x.n=Z at *
  go_enter Tryz.func97,Tryz.ntmps97
  go_wp2_with (go_at_call 66;refine(I _).mono ?_;rintro e w' ⟨rfl,rfl⟩)
  go_ret;exact⟨rfl,zah _ _ _⟩
 ·rw[ya h1];have I:=fun W=>zeA x.n (-1000000) 1000000 W (by omega) (by omega);by_cases J:8<x.ks.length
  ·rw[yd J];clear D h1;generalize x.ks.length=l at *;generalize x.n=Z at *;have h3:(8:Int)<(l:Int):=by omega
   go_enter Tryz.func97,Tryz.ntmps97
   go_wp2_with (go_at_call 66;refine(I _).mono ?_;rintro e w' ⟨rfl,rfl⟩)
   go_ret;exact⟨rfl,zah _ _ _⟩
  ·rw[ya J]
   have T:∀ w1:World,w1.cell? ⟨w.heap.size+1,0,none⟩=some (.int .i64 (m:Int))->zsw 131 #[.pointer (some ⟨w.heap.size+1,0,none⟩)] (fun k=>!decide (0<=k/\k<=(m:Int)-1)) w1:=fun w1 h1 y w2 M =>
    (zrz y m (w.heap.size+1) w2 hm (zab h1 M)).mono (fun e w3 h=>⟨h.1,by rw[h.2];exact yr _ _⟩)
   have d3:=fun(W:World) (hk:zak W ka x.ks) (hc:W.cell? ⟨w.heap.size+1,0,none⟩=some (.int .i64 (m:Int)))=>zfc 131 #[.pointer (some ⟨w.heap.size+1,0,none⟩)] (fun k=>!decide (0<=k/\k<=(m:Int)-1)) ka kc x.ks W E hk (yK Tryz.func131 (by kernel_rfl) rfl) (T W hc);have K2:Hid (∀ F U,zak ((w.alloc F).alloc U) ka x.ks):=fun F U=>D.below (zah _ _ _);have O:Hid _:=d3;have C2:Hid (∀ F,((w.alloc F).alloc (.cells #[.int .i64 (m:Int)] 3)).cell? ⟨w.heap.size+1,0,none⟩=some (.int .i64 (m:Int))):=fun F=>zaC w _ _ 0 _ rfl;clear D T d3 h1;generalize (x.ks.any fun k=>!decide (0<=k/\k<=(m:Int)-1))=b3 at *;obtain⟨l,hl⟩:∃ l,x.ks.length=l:=⟨_,rfl⟩;rw[hl] at O J E |-;clear hl;generalize x.n=Z at *;have h3:¬ (8:Int)<(l:Int):=by omega
   cases b3
   all_goals
    go_enter Tryz.func97,Tryz.ntmps97
    go_wp2_with (first|(go_at_call 66;refine(I _).mono ?_;rintro e w' ⟨rfl,rfl⟩)|(go_at_call 132;refine(O.out _ (K2.out _ _) (C2.out _)).mono ?_;rintro e w' ⟨rfl,hb⟩))
    go_ret;exact⟨rfl,(zah _ _ _).trans (hb.mono (by simp;omega))⟩
theorem zyC{G:List Cl}{k:Nat}(h:k<G.length):G.drop k=cl G k :: G.drop (k+1):=by
 rw[zcv h];exact List.drop_eq_getElem_cons h
theorem zfV(a:Option Addr)(c:Nat)(G:List Cl)(w:World)(hN:G.length<=9223372036854775807)(hB:zkb G)(hS:zaI w a G) :
  Calls Tryz.prog 64 #[.agg #[.slice a G.length c]] w fun e w' => e=.returned (.int .i64 (zaA G))/\Below w.heap.size w w' := by
 unfold zaA;by_cases F:24<G.length
 ·rw[yd F];generalize G.length=n at *;clear hS hB;have M:(24:Int)<(n:Int):=by omega
  go_enter Tryz.func64,Tryz.ntmps64
  go_wp2
  go_ret;exact⟨rfl,zaa _ _⟩
 ·rw[ya F];have HS:Hid (zaI w a G):=hS;have Z:Hid (∀ i,i<G.length->∀ ka kc W,zak W ka (cl G i).ks->Calls _ _ _ _ _):=fun i hi ka kc W hW=>zly (cl G i) ka kc G.length W (by omega) (hB i hi) hW;have DR:Hid (∀ k,k<G.length->G.drop k=cl G k :: G.drop (k+1)):=fun k hk=>zyC hk;have DN:Hid (G.drop G.length=[]):=List.drop_length;have E0:Hid (cellsE G.length G=cellsE G.length (G.drop 0)):=rfl;clear hS hB;obtain⟨E,hR⟩:∃ r,cellsE G.length G=r:=⟨_,rfl⟩;rw[hR] at E0 |-;clear hR;obtain⟨n,hn⟩:∃ n,G.length=n:=⟨_,rfl⟩;have HN:Hid (G.length=n):=hn;rw[hn] at hN F Z DR DN E0 |-;clear hn;have M:¬ (24:Int)<(n:Int):=by omega
  go_enter Tryz.func64,Tryz.ntmps64
  go_wp2_with fail
  go_loopg [13] n (fun g s13 wr=>∃ k:Nat,k<=n/\n-k<=g/\s13=.int .i64 k/\Hid (Below w.heap.size w wr)/\wr.cell? ⟨w.heap.size,0,none⟩=some (.slice a n c)/\Hid (E=cellsE n (G.drop k)))
  case atStart=>exact⟨0,by omega,by omega,rfl,zaa _ _,by go_simp,E0⟩
  case round =>
   obtain⟨k,hk,hg,rfl,HB,lb,A⟩:=hrel;have b0:=ye _ _ lb;by_cases O:k<n
   ·have a9:(k:Int)<(n:Int):=by omega
    obtain⟨b,o,rfl,c0,ka,kc,c1,a6⟩:=(HS.out.below HB.out) k (by rw[HN.out];exact O);have I:Hid _:=fun W hW=>Z.out k O ka kc W hW;have KS:Hid (∀ o1,zak (wr.alloc o1) ka (cl G k).ks):=fun o1=>a6.below (zaa _ _)
    have T:Hid (E=if zfj n (cl G k)=0 then cellsE n (G.drop (k+1)) else zfj n (cl G k)):=by
     show _=_;rw[A.out,DR.out k O];rfl
    clear a6 A;generalize cl G k=x at *;obtain⟨xn,a7⟩:=x;dsimp only at c0 c1;obtain⟨ev,a5⟩:∃ z,zfj n ⟨xn,a7⟩=z:=⟨_,rfl⟩;rw[a5] at I T;obtain⟨l,hl⟩:∃ z,a7.length=z:=⟨_,rfl⟩;dsimp only at I;rw[hl] at I c1;clear a5 hl
    go_wp2_with fail
    refine yi (I.out _ (KS.out _)) ?_;rintro e w1 ⟨rfl,hb⟩;have J:Below wr.heap.size wr w1:=(zaa _ _).trans (hb.mono (by simp));have U:Hid (Below w.heap.size w w1):=HB.out.trans (J.mono HB.out.size);have a8:=zab lb J;clear hb J lb;by_cases hz:ev=0
    ·subst hz;have D:Hid (E=cellsE n (G.drop (k+1))):=by show _=_;rw[T.out,yd rfl]
     clear T
     go_wp2_with fail
     go_roundg (n-(k+1))
     case measure=>omega
     case rel=>exact⟨k+1,by omega,by omega,by go_num,U,a8,D⟩
    ·have b1:(ev == 0)=false:=by simp[hz]
     have b2:decide (ev=0)=false:=yF hz;have D:Hid (E=ev):=by show _=_;rw[T.out,ya hz]
     clear T
     go_wp2_with fail
     go_ret;exact⟨by rw[D.out];rfl,U.out⟩
   ·have:k=n:=by omega
    subst this;have D:Hid (E=0):=by show _=_;rw[A.out,DN.out];rfl
    clear A
    go_wp2_with fail
    go_ret;exact⟨by rw[D.out];rfl,HB.out⟩
theorem zmD(x y:Cl):x=y↔(x.n=y.n/\x.ks=y.ks):=by
 constructor
 ·rintro rfl;exact⟨rfl,rfl⟩
 ·obtain⟨a,b⟩:=x;obtain⟨c,d⟩:=y;rintro⟨rfl,rfl⟩;rfl
def zpv(K:Nat):Prop:=∀ (x y:Cl) (ka D:Option Addr) (kc E:Nat) (W:World),x.ks.length<=9223372036854775807->zak W ka x.ks->zak W D y.ks ->
 Calls Tryz.prog K #[.agg #[.int .i64 x.n,.slice ka x.ks.length kc],.agg #[.int .i64 y.n,.slice D y.ks.length E]] W fun e w' => ∃ r:Bool,e=.returned (.bool r)/\Below W.heap.size W w' /\(r=true↔x=y)
theorem zgj(K:Nat)(eg:∀ args w,(callFunc K args).run Tryz.prog w=.ok (.enter K args) w)(hK:zpv K)(a a' : Option Addr)(c c' : Nat)(S D:List Cl)(w:World)(hN:S.length<=9223372036854775807)(hB:zkb S)(h1:zaI w a S)(h2:zaI w a' D) :
  Calls Tryz.prog 45 #[.slice a S.length c,.slice a' D.length c', .func (.func K) #[] #[]] w fun e w' => ∃ r:Bool,e=.returned (.bool r)/\Below w.heap.size w w' /\(r=true↔S=D):=by
 by_cases hl:S.length=D.length
 ·have E1:Hid ((∀ i,i<S.length->cl S i=cl D i)->S=D):=fun h=>zzP hl h;have E2:Hid (∀ i,cl S i≠cl D i->S≠D):=fun i h e=>h (by rw[e]);have H1:Hid (zaI w a S):=h1;have H2:Hid (zaI w a' D):=h2;have HB:Hid (zkb S):=hB;have HK:Hid (zpv K):=hK;have HL:Hid (D.length=S.length):=hl.symm;rw[<- hl];clear h1 h2 hB hl hK;generalize hn:S.length=n at *;have HN:Hid _:=hn;clear hn
  go_enter Tryz.func45,Tryz.ntmps45
  go_wp2
  go_loopg [17] n (fun g s17 wr=>∃ k:Nat,k<=n/\n-k<=g/\s17=.int .i64 k/\Below w.heap.size w wr/\Hid (∀ i,i<k->cl S i=cl D i))
  case atStart=>exact⟨0,by omega,by omega,rfl,yr _ _,fun i hi=>by omega⟩
  case round =>
   obtain⟨k,hk,hg,rfl,E,A⟩:=hrel;by_cases F:k<n
   ·have a8:(k:Int)<(n:Int):=by omega
    obtain⟨b,o,rfl,c0,ka,kc,c5,J⟩:=(H1.out.below E) k (by rw[HN.out];exact F);obtain⟨b', o', rfl,e0,a5,a6,e5,M⟩:=(H2.out.below E) k (by rw[HL.out];exact F);have a9:=ye _ _ c0;have a7:=ye _ _ e0;have d1:=fun o1 o2=>HK.out (cl S k) (cl D k) ka a5 kc a6 ((wr.alloc o1).alloc o2) (HB.out k (by rw[HN.out];exact F)) (J.below (zah _ _ _)) (M.below (zah _ _ _));have T:Hid _:=E2.out k
    have KK:Hid (cl S k=cl D k->∀ i,i<k+1->cl S i=cl D i):=fun h i hi=>by
     by_cases e:i=k
     ·subst e;exact h
     ·exact A.out i (by omega)
    clear J M;have D1:Hid _:=d1;clear d1;generalize cl S k=x at *;generalize cl D k=y at *
    go_wp2_with fail
    refine(D1.out _ _).mono ?_;rintro e w3 ⟨r,rfl,I,O⟩
    cases r with
    | true =>
     have Z:Hid _:=O.1 rfl;clear O
     go_wp2
     go_roundg (n-(k+1))
     case measure=>omega
     case rel=>exact⟨k+1,by omega,by omega,by go_num,(E.trans ((zah _ _ _).mono E.size)).trans (I.mono (by simp;have:=E.size;omega)),KK.out Z.out⟩
    | false =>
     have Z:Hid (S≠D):=T.out fun e=>by have:=O.2 e;cases this
     clear O
     go_wp2
     go_ret;exact⟨false,rfl,(E.trans ((zah _ _ _).mono E.size)).trans (I.mono (by simp;have:=E.size;omega)),⟨fun h=>(by cases h),fun h=>absurd h Z.out⟩⟩
   ·have:k=n:=by omega
    subst this
    go_wp2
    go_ret;exact⟨true,rfl,E,⟨fun _=>E1.out A.out,fun _=>rfl⟩⟩
 ·have b0:¬ ((S.length:Int)=(D.length:Int)):=by omega
  have U:Hid (S≠D):=fun e=>hl (by rw[e]);clear h1 h2 hB hK;generalize S.length=n at *;generalize D.length=n' at *
  go_enter Tryz.func45,Tryz.ntmps45
  go_wp2
  go_ret;exact⟨false,rfl,yr _ _,⟨fun h=>(by cases h),fun h=>absurd h U.out⟩⟩
theorem zra:zpv 46:=by
 intro x y ka U kc a5 W M h1 h2;have F:Hid (x=y↔(x.n=y.n/\x.ks=y.ks)):=zmD x y;have d:=fun(w' : World) (i1:zak w' ka x.ks) (i2:zak w' U y.ks)=>zfr ka U kc a5 x.ks y.ks w' M i1 i2;have D:Hid _:=d;have I1:Hid (∀ o1 o2,zak ((W.alloc o1).alloc o2) ka x.ks):=fun o1 o2=>h1.below (zah _ _ _);have I2:Hid (∀ o1 o2,zak ((W.alloc o1).alloc o2) U y.ks):=fun o1 o2=>h2.below (zah _ _ _);clear h1 h2 d;obtain⟨xn,I⟩:=x;obtain⟨yn,J⟩:=y;dsimp only at F D I1 I2 |-;obtain⟨xl,O⟩:∃ z,I.length=z:=⟨_,rfl⟩;obtain⟨yl,T⟩:∃ z,J.length=z:=⟨_,rfl⟩;rw[O,T] at D;rw[O,T];clear O T M;by_cases he:xn=yn
 ·have E:Hid ((⟨xn,I⟩:Cl)=⟨yn,J⟩↔I=J):=by show _↔_;rw[F.out];simp[he]
  subst he;clear F
  go_enter Tryz.func46,Tryz.ntmps46
  go_wp2_with fail
  refine yi (D.out _ (I1.out _ _) (I2.out _ _)) ?_;rintro e w1 ⟨rfl,hb⟩;have HB:Hid (Below W.heap.size W w1):=(zah _ _ _).trans (hb.mono (by simp;omega));clear hb;by_cases Z:I=J
  ·have HR:Hid _:=E.out.2 Z;rw[yG Z];clear Z E
   go_wp2
   go_ret;exact⟨true,rfl,HB.out,⟨fun _=>HR.out,fun _=>rfl⟩⟩
  ·have HR:Hid _:=fun h=>Z (E.out.1 h);rw[yF Z];clear Z E
   go_wp2
   go_ret;exact⟨false,rfl,HB.out,⟨fun h=>(by cases h),fun h=>absurd h HR.out⟩⟩
 ·have hd:decide (xn=yn)=false:=yF he;have a6:(xn == yn)=false:=by simp[he]
  have HR:Hid (¬ (⟨xn,I⟩:Cl)=⟨yn,J⟩):=fun h=>he (F.out.1 h).1;clear F
  go_enter Tryz.func46,Tryz.ntmps46
  go_wp2_with fail
  go_ret;exact⟨false,rfl,zah _ _ _,⟨fun h=>(by cases h),fun h=>absurd h HR.out⟩⟩
theorem ztE(a E:Option Addr)(c F:Nat)(S D:List Cl)(w:World)(U:S.length<=9223372036854775807)(J:zkb S)(h1:zaI w a S)(I:zaI w E D) :
  Calls Tryz.prog 15 #[.agg #[.slice a S.length c],.agg #[.slice E D.length F]] w fun e w' => ∃ r:Bool,e=.returned (.bool r)/\Below w.heap.size w w' /\(r=true↔S=D):=by
 have O:Hid _:=fun o1 o2=>zgj 46 (yK Tryz.func46 (by kernel_rfl) rfl) zra a E c F S D ((w.alloc o1).alloc o2) U J (h1.below (zah _ _ _)) (I.below (zah _ _ _));clear h1 I J;generalize S.length=n at *;generalize D.length=n' at *
 go_enter Tryz.func15,Tryz.ntmps15
 go_wp2_with (go_at_call 45;refine(O.out _ _).mono ?_;rintro e w1 ⟨r,rfl,Z,M⟩;have T:Hid _:=M;clear M)
 go_ret;exact⟨r,rfl,(zah _ _ _).trans (Z.mono (by simp;omega)),T.out⟩
theorem zpg:zpv 88:=by
 intro x y ka U kc a5 W M h1 h2;have F:Hid (x=y↔(x.n=y.n/\x.ks=y.ks)):=zmD x y;have d:=fun(w' : World) (i1:zak w' ka x.ks) (i2:zak w' U y.ks)=>zfr ka U kc a5 x.ks y.ks w' M i1 i2;have D:Hid _:=d;have I1:Hid (∀ o1 o2,zak ((W.alloc o1).alloc o2) ka x.ks):=fun o1 o2=>h1.below (zah _ _ _);have I2:Hid (∀ o1 o2,zak ((W.alloc o1).alloc o2) U y.ks):=fun o1 o2=>h2.below (zah _ _ _);clear h1 h2 d;obtain⟨xn,I⟩:=x;obtain⟨yn,J⟩:=y;dsimp only at F D I1 I2 |-;obtain⟨xl,O⟩:∃ z,I.length=z:=⟨_,rfl⟩;obtain⟨yl,T⟩:∃ z,J.length=z:=⟨_,rfl⟩;rw[O,T] at D;rw[O,T];clear O T M;by_cases he:xn=yn
 ·have E:Hid ((⟨xn,I⟩:Cl)=⟨yn,J⟩↔I=J):=by show _↔_;rw[F.out];simp[he]
  subst he;clear F
  go_enter Tryz.func88,Tryz.ntmps88
  go_wp2_with fail
  refine yi (D.out _ (I1.out _ _) (I2.out _ _)) ?_;rintro e w1 ⟨rfl,hb⟩;have HB:Hid (Below W.heap.size W w1):=(zah _ _ _).trans (hb.mono (by simp;omega));clear hb;by_cases Z:I=J
  ·have HR:Hid _:=E.out.2 Z;rw[yG Z];clear Z E
   go_wp2
   go_ret;exact⟨true,rfl,HB.out,⟨fun _=>HR.out,fun _=>rfl⟩⟩
  ·have HR:Hid _:=fun h=>Z (E.out.1 h);rw[yF Z];clear Z E
   go_wp2
   go_ret;exact⟨false,rfl,HB.out,⟨fun h=>(by cases h),fun h=>absurd h HR.out⟩⟩
 ·have hd:decide (xn=yn)=false:=yF he;have a6:(xn == yn)=false:=by simp[he]
  have HR:Hid (¬ (⟨xn,I⟩:Cl)=⟨yn,J⟩):=fun h=>he (F.out.1 h).1;clear F
  go_enter Tryz.func88,Tryz.ntmps88
  go_wp2_with fail
  go_ret;exact⟨false,rfl,zah _ _ _,⟨fun h=>(by cases h),fun h=>absurd h HR.out⟩⟩
theorem zrQ(a E:Option Addr)(c F:Nat)(S D:List Cl)(w:World)(U:S.length<=9223372036854775807)(J:zkb S)(h1:zaI w a S)(I:zaI w E D) :
  Calls Tryz.prog 52 #[.agg #[.slice a S.length c],.agg #[.slice E D.length F]] w fun e w' => ∃ r:Bool,e=.returned (.bool r)/\Below w.heap.size w w' /\(r=true↔S=D):=by
 have O:Hid _:=fun o1 o2=>zgj 88 (yK Tryz.func88 (by kernel_rfl) rfl) zpg a E c F S D ((w.alloc o1).alloc o2) U J (h1.below (zah _ _ _)) (I.below (zah _ _ _));clear h1 I J;generalize S.length=n at *;generalize D.length=n' at *
 go_enter Tryz.func52,Tryz.ntmps52
 go_wp2_with (go_at_call 45;refine(O.out _ _).mono ?_;rintro e w1 ⟨r,rfl,Z,M⟩;have T:Hid _:=M;clear M)
 go_ret;exact⟨r,rfl,(zah _ _ _).trans (Z.mono (by simp;omega)),T.out⟩
structure Fr where
 p:Int
 o:Int
 m:Int
 t:Int
 g:Bool
 deriving DecidableEq
def fr(L:List Fr)(i:Nat):Fr:=L.getD i ⟨0,0,0,0,false⟩
theorem zgy{L:List Fr}{i:Nat}(h:i<L.length):fr L i=L[i]:=zae L _ h
theorem zAc{L M:List Fr}(hl:L.length=M.length)(h:∀ i,i<L.length->fr L i=fr M i):L=M:=by
 apply List.ext_getElem hl;intro i h1 D;have:=h i h1
 rwa [zgy h1,zgy D] at this
theorem zBC{P:Int->Prop}(h:∀ a:Fin 8,P ((a.val:Nat):Int)){a:Int}(h0:0<=a)(D:a<=7):P a:=by
 obtain⟨n,rfl⟩:=Int.eq_ofNat_of_zero_le h0;exact h ⟨n,by omega⟩
def zgO(x:Fr)(k:Nat):Prop:=if k=0 then x.p = -1 else 0<=x.p/\x.p<=(k:Int)-1
def zdU(x:Fr):Prop:=(0<=x.o/\x.o<=9)/\(0<=x.m/\x.m<=7)/\(0<=x.t/\x.t<=1000)
def zha(x y:Fr):Prop:=bits .andNot .i64 x.m y.m=0/\(x.g=true\/y.g=false)
instance (x:Fr) (k:Nat):Decidable (zgO x k):=by unfold zgO;infer_instance
instance (x:Fr):Decidable (zdU x):=by unfold zdU;infer_instance
instance (x y:Fr):Decidable (zha x y):=by unfold zha;infer_instance
def frE(L:List Fr)(k:Nat):Int:=if ¬ zgO (fr L k) k then 4 else if ¬ zdU (fr L k) then 2 else if 0<k/\¬ zha (fr L k) (fr L (fr L k).p.toNat) then 3 else 0
def zop(L:List Fr):Nat->Nat->Int
 | _,0=>0
 | i,n+1=>if frE L i=0 then zop L (i+1) n else frE L i
def zoo(L:List Fr)(i:Nat):Int:=zop L i (L.length-i)
def zaO(L:List Fr):Int:=if 8<L.length then 1 else zoo L 0
theorem zto{L:List Fr}{i:Nat}(h:i<L.length):zoo L i=if frE L i=0 then zoo L (i+1) else frE L i:=by
 unfold zoo;obtain⟨n,hn⟩:∃ n,L.length-i=n+1:=⟨L.length-i-1,by omega⟩;rw[hn,zop,show L.length-(i+1)=n by omega]
theorem zvX{L:List Fr}{i:Nat}(h:L.length<=i):zoo L i=0:=by
 unfold zoo;rw[show L.length-i=0 by omega,zop]
structure zcr (L:List Fr):Prop where
 few:L.length<=8
 ok:∀ i,i<L.length->frE L i=0
theorem zkP{L:List Fr}:∀ n i,zop L i n=0↔∀ j,i<=j->j<i+n->frE L j=0
 | 0,i=>by simp[zop];omega
 | n+1,i=>by
  rw[zop];by_cases h:frE L i=0
  ·rw[yd h,zkP n (i+1)];constructor
   ·intro H j h1 D;by_cases e:j=i
    ·rw[e];exact h
    ·exact H j (by omega) (by omega)
   ·intro H j h1 D;exact H j (by omega) (by omega)
  ·rw[ya h];constructor
   ·intro H;exact absurd H h
   ·intro H;exact H i (yk _) (by omega)
theorem zcE{L:List Fr}:zaO L=0↔zcr L:=by
 unfold zaO zoo;by_cases h:8<L.length
 ·rw[yd h];exact⟨fun e=>by omega,fun R=>absurd R.few (by omega)⟩
 ·rw[ya h,zkP];exact⟨fun H=>⟨by omega,fun i hi=>H i (by omega) (by omega)⟩,fun R j _ D=>R.ok j (by omega)⟩
theorem zdj{L:List Fr}{k:Nat}:frE L k=0↔zgO (fr L k) k/\zdU (fr L k)/\(0<k->zha (fr L k) (fr L (fr L k).p.toNat)):=by
 unfold frE;by_cases h1:zgO (fr L k) k
 ·rw[ya (yJ h1)];by_cases E:zdU (fr L k)
  ·rw[ya (yJ E)];by_cases D:0<k/\¬ zha (fr L k) (fr L (fr L k).p.toNat)
   ·rw[yd D];exact⟨fun e=>by omega,fun⟨_,_,h⟩=>absurd (h D.1) D.2⟩
   ·rw[ya D];refine⟨fun _=>⟨h1,E,fun h0=>?_⟩,fun _=>rfl⟩;by_cases F:zha (fr L k) (fr L (fr L k).p.toNat)
    ·exact F
    ·exact absurd ⟨h0,F⟩ D
  ·rw[yd E];exact⟨fun e=>by omega,fun⟨_,h,_⟩=>absurd h E⟩
 ·rw[yd h1];exact⟨fun e=>by omega,fun⟨h,_⟩=>absurd h h1⟩
theorem zcr.first{L:List Fr}(R:zcr L)(h:0<L.length):(fr L 0).p = -1:=by
 have:=(zdj.1 (R.ok 0 h)).1;unfold zgO at this;simpa using this
theorem zcr.up{L:List Fr}(R:zcr L){i:Nat}(h:i<L.length)(h0:0<i):∃ q:Nat,(fr L i).p=q/\q<i/\zha (fr L i) (fr L q):=by
 obtain⟨h1,_,F⟩:=zdj.1 (R.ok i h);unfold zgO at h1;rw[ya (by omega)] at h1;obtain⟨q,E⟩:=Int.eq_ofNat_of_zero_le h1.1;have D:=F h0;rw[E] at D;refine⟨q,E,by omega,D⟩
theorem zcr.low{L:List Fr}(R:zcr L){i:Nat}(h:i<L.length):(fr L i).p<i:=by
 by_cases h0:0<i
 ·obtain⟨q,E,D,_⟩:=R.up h h0;omega
 ·have:i=0:=by omega
  subst this;rw[R.first h];omega
theorem zcr.may{L:List Fr}(R:zcr L){i:Nat}(h:i<L.length):0<=(fr L i).m/\(fr L i).m<=7:=(zdj.1 (R.ok i h)).2.1.2.1
def zdd(L:List Fr):Nat->Int->Int->Bool
 | 0,_,_=>false
 | n+1,k,top=>if 0<=k/\k<L.length then (if k=top then true else zdd L n (fr L k.toNat).p top) else false
def inF(L:List Fr)(k top:Int):Bool:=zdd L L.length k top
theorem zez{L:List Fr}{n:Nat}{k top:Int}(h:¬ (0<=k/\k<L.length)):zdd L n k top=false:=by
 cases n with
 | zero=>rfl
 | succ n=>rw[zdd,ya h]
theorem znL{L:List Fr}(R:zcr L)(top:Int):∀ (n m:Nat) (k:Int),k<n->k<m->zdd L n k top=zdd L m k top
 | 0,m,k,h1,E=>by rw[zez (by omega),zez (by omega)]
 | n+1,0,k,h1,E=>by rw[zez (by omega),zez (by omega)]
 | n+1,m+1,k,h1,E=>by
  rw[zdd,zdd];by_cases D:0<=k/\k<L.length
  ·rw[yd D,yd D];by_cases e:k=top
   ·rw[yd e,yd e]
   ·rw[ya e,ya e];have:=R.low (i:=k.toNat) (by omega);exact znL R top n m _ (by omega) (by omega)
  ·rw[ya D,ya D]
theorem ztI{L:List Fr}{k:Nat}(h:k<L.length):inF L k k=true:=by
 unfold inF;obtain⟨n,hn⟩:∃ n,L.length=n+1:=⟨L.length-1,by omega⟩;rw[hn,zdd,yd (by omega),yd rfl]
theorem zwv{L:List Fr}(R:zcr L){i:Nat}{top:Int}(h:i<L.length)(D:(i:Int)≠top):inF L i top=inF L (fr L i).p top:=by
 unfold inF;have hl:=R.low h;obtain⟨n,hn⟩:∃ n,L.length=n+1:=⟨L.length-1,by omega⟩
 have e:zdd L L.length (i:Int) top=zdd L n (fr L i).p top:=by
  rw[hn,zdd,yd (by omega),ya D,yj]
 rw[e];exact znL R top _ _ _ (by omega) (by omega)
def zax(L:List Fr)(k:Int):Int:=if ¬ (0<=k/\k<L.length) then 4 else if (fr L k.toNat).g=true then 5 else 0
def zcy(L:List Fr)(k:Int):Int:=if zaO L=0 then zax L k else zaO L
theorem zfR{L:List Fr}{k:Int}(h:zax L k=0):∃ q:Nat,k=q/\q<L.length/\(fr L q).g=false:=by
 unfold zax at h;by_cases h1:0<=k/\k<L.length
 ·rw[ya (yJ h1)] at h;obtain⟨q,rfl⟩:=Int.eq_ofNat_of_zero_le h1.1
  cases hg:(fr L q).g with
  | true=>rw[yd (by exact hg)] at h;cases h
  | false=>exact⟨q,rfl,by omega,hg⟩
 ·rw[yd h1] at h;cases h
theorem zfv{L:List Fr}{k:Int}(h:zcy L k=0):zcr L/\∃ q:Nat,k=q/\q<L.length/\(fr L q).g=false:=by
 unfold zcy at h;by_cases h1:zaO L=0
 ·rw[yd h1] at h;exact⟨zcE.1 h1,zfR h⟩
 ·rw[ya h1] at h;exact absurd h h1
def zkc(L:List Fr)(k:Int):List Fr:=(List.range L.length).map fun i=>{ fr L i with g:=(fr L i).g || inF L i k }
theorem zdw(L:List Fr)(k:Int):(zkc L k).length=L.length:=by unfold zkc;simp
theorem zpH{L:List Fr}{k:Int}{i:Nat}(h:i<L.length):fr (zkc L k) i={ fr L i with g:=(fr L i).g || inF L i k }:=by
 rw[zgy (by rw[zdw];exact h)];unfold zkc;simp
theorem ztl{L:List Fr}(R:zcr L)(k:Int):zcr (zkc L k):=by
 refine⟨by rw[zdw];exact R.few,fun i hi=>?_⟩;rw[zdw] at hi;obtain⟨a1,a2,a3⟩:=zdj.1 (R.ok i hi);rw[zdj,zpH hi];refine⟨a1,a2,fun h0=>?_⟩;dsimp only;obtain⟨q,E,F,D⟩:=R.up hi h0;rw[E,yj,zpH (by omega)];refine⟨D.1,?_⟩;dsimp only;by_cases e:(i:Int)=k
 ·left;subst e;rw[ztI hi,Bool.or_true]
 ·rw[zwv R hi e,E];rcases D.2 with h|h
  ·left;rw[h,Bool.true_or]
  ·rw[h]
   cases hin:inF L (q:Int) k with
   | true=>left;rw[Bool.or_true]
   | false=>right;rfl
def zku(L:List Fr)(k:Int):Nat:=L.countP (fun f=>decide (f.p=k) && !f.g)
theorem zwK{L:List Fr}{j:Nat}(k:Int)(h:j<L.length):zku (L.take (j+1)) k=zku (L.take j) k+(if (fr L j).p=k/\(fr L j).g=false then 1 else 0):=by
 unfold zku;rw[List.take_succ_eq_append_getElem h,List.countP_append,zgy h];by_cases h1:L[j].p=k
 ·cases hg:L[j].g <;> simp[hg,h1]
 ·simp[h1]
end Go.Proofs.YtcbcpomacdngmaaGreat
