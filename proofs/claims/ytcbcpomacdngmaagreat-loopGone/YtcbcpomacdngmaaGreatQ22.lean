/-
  x
-/
import Derived.Test.YtcbcpomacdngmaaGreatQ21
import Derived.Laws.OwnMore
namespace Go.Proofs.YtcbcpomacdngmaaGreat
set_option maxRecDepth 100000
set_option maxHeartbeats 4000000
set_option linter.unusedVariables false
open Go.RowKit Go.ChangeShapes Go.WideShapes
def goE(L:List Fr)(k o:Int):Int:=if zcw L k≠0 then zcw L k else if ¬ (0<=o/\o<=9) then 2 else if 1000<=(fr L k.toNat).t then 1 else 0
def goX(L:List Fr)(k o:Int)(i:Nat):Fr:=if (i:Int)=k then { fr L i with o:=o,t:=(fr L i).t+1 } else { fr L i with g:=(fr L i).g || inF L i k }
def goF(L:List Fr)(k o:Int):List Fr:=(List.range L.length).map (goX L k o)
theorem zha(L:List Fr)(k o:Int):(goF L k o).length=L.length:=by unfold goF;simp
theorem zvQ{L:List Fr}{k o:Int}{i:Nat}(h:i<L.length):fr (goF L k o) i=goX L k o i:=by
 rw[zgs (by rw[zha];exact h)];unfold goF;simp
theorem ztm{L:List Fr}{k o:Int}(h:goE L k o=0):zcw L k=0/\(0<=o/\o<=9)/\(fr L k.toNat).t<1000:=by
 unfold goE at h;by_cases h1:zcw L k=0
 ·rw[ya (not_not_intro h1)] at h;by_cases D:0<=o/\o<=9
  ·rw[ya (not_not_intro D)] at h;by_cases E:1000<=(fr L k.toNat).t
   ·rw[yb E] at h;cases h
   ·exact⟨h1,D,by omega⟩
  ·rw[yb D] at h;cases h
 ·rw[yb h1] at h;exact absurd h h1
theorem zpG{L:List Fr}(R:zcl L){top:Int}:∀ (n:Nat) (k:Int),k<n->inF L k top=true->top<=k
 | 0,k,F,h=>by
  unfold inF at h;rw[zer (by omega)] at h;cases h
 | n+1,k,F,h=>by
  by_cases D:0<=k/\k<L.length
  ·obtain⟨i,rfl⟩:=Int.eq_ofNat_of_zero_le D.1;by_cases E:(i:Int)=top
   ·omega
   ·rw[zwb R (by omega) E] at h;have hl:=R.low (i:=i) (by omega);have:=zpG R n _ (by omega) h;omega
  ·unfold inF at h;rw[zer D] at h;cases h
theorem zzV{L:List Fr}(R:zcl L){k top:Int}(h:inF L k top=true):top<=k:=zpG R (k.toNat+1) k (by omega) h
theorem zgu{L:List Fr}{k:Nat}{o:Int}(h:k<L.length):fr (goF L k o) k={ fr L k with o:=o,t:=(fr L k).t+1 }:=by
 rw[zvQ h];unfold goX;rw[yb rfl]
theorem zdz{L:List Fr}{k:Nat}{o:Int}{i:Nat}(h:i<L.length)(D:i≠k):fr (goF L k o) i={ fr L i with g:=(fr L i).g || inF L i k }:=by
 rw[zvQ h];unfold goX;rw[ya (by omega)]
theorem zAU{L:List Fr}{k o:Int}{i:Nat}(h:i<L.length):(fr (goF L k o) i).p=(fr L i).p:=by
 rw[zvQ h];unfold goX
 split <;> rfl
theorem zAM{L:List Fr}{k o:Int}{i:Nat}(h:i<L.length):(fr (goF L k o) i).m=(fr L i).m:=by
 rw[zvQ h];unfold goX
 split <;> rfl
theorem zpD{L:List Fr}{k o:Int}(h:goE L k o=0):zcl (goF L k o):=by
 obtain⟨h1,O,T⟩:=ztm h;obtain⟨R,q,rfl,U,hg⟩:=zfp h1;rw[yi] at T;refine⟨by rw[zha];exact R.few,fun i hi=>?_⟩;rw[zha] at hi;obtain⟨a1,a2,a3⟩:=zcM.1 (R.ok i hi);rw[zcM];refine⟨?_,?_,fun h0=>?_⟩
 ·unfold zgJ at a1 |-;rw[zAU hi];exact a1
 ·unfold zdM at a2 |-;rw[zAM hi];by_cases e:i=q
  ·subst e;rw[zgu hi];dsimp only;exact⟨O,a2.2.1,by omega⟩
  ·rw[zdz hi e];exact a2
 ·obtain⟨p,I,M,D⟩:=R.up hi h0;rw[zAU hi,I,yi];unfold zgV;rw[zAM hi,zAM (by omega)];refine⟨D.1,?_⟩;by_cases e:i=q
  ·subst e;rw[zgu hi,zdz (by omega) (by omega)];dsimp only;right
   have E:(fr L p).g=false:=by
    rcases D.2 with hh|hh
    ·rw[hg] at hh;cases hh
    ·exact hh
   have F:inF L (p:Int) i=false:=by
    cases hc:inF L (p:Int) i with
    | false=>rfl
    | true=>exact absurd (zzV R (k:=(p:Int)) hc) (by omega)
   rw[E,F];rfl
  ·rw[zdz hi e];dsimp only;by_cases J:p=q
   ·subst J;left;rw[zwb R hi (by omega),I,ztw (by omega),Bool.or_true]
   ·rw[zdz (by omega) J,zwb R hi (by omega),I];dsimp only;rcases D.2 with hh|hh
    ·left;rw[hh,Bool.true_or]
    ·rw[hh]
     cases inF L (p:Int) q with
     | true=>left;rw[Bool.or_true]
     | false=>right;rfl
structure Ml where
 f:Int
 g:List Cl
structure Wl where
 fs:List Fr
 rs:List Rl
 ps:List (List Ac)
 qs:List (List Ml)
 pt:List Pt
def zlg:Wl:=⟨[],[],[],[],[]⟩
def rlm(W:Wl)(k:Nat):Rl:=W.rs.getD k zbK
def prg(W:Wl)(k:Nat):List Ac:=W.ps.getD k []
def que(W:Wl)(k:Nat):List Ml:=W.qs.getD k []
def zcJ:List Rl->Int
 | []=>0
 | r :: l=>if zaF r=0 then zcJ l else zaF r
def zek:List (List Ac)->Int
 | []=>0
 | p :: l=>if 40<p.length then 1 else zek l
def zjo(n:Nat):List Ml->Int
 | []=>0
 | m :: l=>if 0<=m.f/\m.f<=(n:Int)-1 then (if zav m.g=0 then zjo n l else zav m.g) else 4
def zbU(n:Nat)(q:List Ml):Int:=if 16<q.length then 1 else zjo n q
def zcI(n:Nat):List (List Ml)->Int
 | []=>0
 | q :: l=>if zbU n q=0 then zcI n l else zbU n q
def zao:List Int->Int
 | []=>0
 | e :: l=>if e=0 then zao l else e
def zbp(W:Wl):Int :=
 zao [zaM W.fs,if W.rs.length=W.fs.length/\W.ps.length=W.fs.length/\W.qs.length=W.fs.length then 0 else 3,zcJ W.rs,zek W.ps,zcI W.fs.length W.qs,zbd W.pt W.fs.length]
def zcZ(R:Rl):Nat->Int
 | 0=>0
 | i+1=>if zcZ R i=0 then zaH R.s (hd R i).1 (hd R i).2 else zcZ R i
def zbv(R:Rl)(n:Int):Int:=if 0<=n/\n<=8 then zcZ R n.toNat else 2
def zbf(R:Rl)(n:Nat):List Cl:=⟨n,(List.range n).map fun i:Nat=>(i:Int)+1⟩ ::(List.range n).map fun i:Nat=>⟨(nd R.s (hd R i).1.toNat).m,[]⟩
structure Ws where
 e:Int
 w:Wl
 o:Int
def zfh(Es:List Int)(W V:Wl)(o:Int):Ws:=if zao Es=0 then ⟨0,V,o⟩ else ⟨zao Es,W,0⟩
def zax(W:Wl)(k:Int):Int:=(fr W.fs k.toNat).t
def zjt(W:Wl)(k:Nat):Int:=(fr W.fs k).m
def setR(W:Wl)(k:Nat)(R:Rl):Wl:={ W with rs:=W.rs.set k R }
def many(W:Wl):Int:=(W.fs.length:Int)
def zBo(W:Wl)(k:Nat)(n:Int):Ws:=zfh [zdK W.fs k n 2] W W (zkt W.fs n:Nat)
def zxG(W:Wl)(k:Nat)(n:Int):Ws:=zfh [zdK W.fs k n 4] W { W with fs:=zkc W.fs n } 0
def zql(W:Wl)(k:Nat)(a b:Int):Ws :=
 zfh [zdK W.fs k a 1,if isH b then 0 else 4,zaH (rlm W a.toNat).s (hd (rlm W a.toNat) b).1 (hd (rlm W a.toNat) b).2] W W (nd (rlm W a.toNat).s (hd (rlm W a.toNat) b).1.toNat).m
def zAC(W:Wl)(k:Nat)(a n:Int):Ws :=
 zfh [zdK W.fs k a 3,zbv (rlm W k) n,if (que W a.toNat).length=16 then 1 else 0] W { W with qs:=W.qs.set a.toNat (que W a.toNat++[⟨k,zbf (rlm W k) n.toNat⟩]) } 0
def wGo(W:Wl)(k:Nat)(n a:Int):Ws :=
 zfh [zdK W.fs k n 5,goE W.fs n a] W { fs:=goF W.fs n a,rs:=W.rs.set n.toNat (zdj (rlm W n.toNat).s.length),ps:=W.ps.set n.toNat [],qs:=W.qs.set n.toNat [],pt:=W.pt } 0
def zva(W:Wl)(k:Nat):Ws:=zfh [zfb W.pt (many W) k (zax W k)] W { W with pt:=zcx W.pt k (zax W k) } W.pt.length
def zAy(W:Wl)(k:Nat)(a n:Int):Ws:=zfh [zdK W.fs k a 3,zjA W.pt (many W) n k (zax W k) a (zax W a)] W { W with pt:=zhQ W.pt n a (zax W a) } 0
def zAA(W:Wl)(k:Nat)(a n:Int):Ws :=
 zfh [if bits .and .i64 (zjt W k) 2=0 then 7 else 0,zbv (rlm W k) a,zhl W.pt (many W) n k (zax W k) (zbf (rlm W k) a.toNat)] W { W with pt:=ziE W.pt n (zbf (rlm W k) a.toNat) } 0
def zAz(W:Wl)(k:Nat)(n:Int):Ws :=
 zfh [zfe W.pt (many W) n k (zax W k)] W { setR W k { rlm W k with i:=gr (pt W.pt n.toNat).cm 0 } with pt:=zhU W.pt n } 0
def zAB(W:Wl)(k:Nat)(n:Int):Ws:=zfh [zaT W.pt (many W) n k (zax W k)] W { W with pt:=zhX W.pt n } 0
def wDo(W:Wl)(k:Nat)(x:Ac):Ws:=zfh [(doF (rlm W k) x).e] W (setR W k (doF (rlm W k) x).r) (doF (rlm W k) x).o
def zdQ(W:Wl)(k:Nat)(x:Ac):Ws :=
 if x.k=9 then zBo W k x.n
 else if x.k=13 then zxG W k x.n
 else if x.k=12 then zql W k x.a x.b
 else if x.k=10 then zAC W k x.a x.n
 else if x.k=21 then wGo W k x.n x.a
 else if x.k=16 then zva W k
 else if x.k=17 then zAy W k x.a x.n
 else if x.k=18 then zAA W k x.a x.n
 else if x.k=19 then zAz W k x.n
 else if x.k=20 then zAB W k x.n
 else wDo W k x
def toldOf(q:Ws):Int:=if q.e=0 then q.o else -q.e
def zmj(W:Wl)(k:Nat)(o:Int):Wl:=setR W k { rlm W k with t:=(rlm W k).t++[o] }
def doW(k:Nat)(W:Wl)(x:Ac):Wl:=zmj (zdQ W k x).w k (toldOf (zdQ W k x))
def zbM(W:Wl)(k:Nat)(start:Bool):Wl :=
 if start then setR W k { rlm W k with i:=[] }
 else { setR W k { rlm W k with i:=((que W k).getD 0 ⟨0,[]⟩).g } with qs:=W.qs.set k ((que W k).drop 1) }
def zdL(W:Wl)(k:Int)(start:Bool):Int :=
 zao [zbp W,zaA W.fs k,if bits .and .i64 (zjt W k.toNat) 1=0 then 7 else 0,if 4760<(rlm W k.toNat).t.length then 1 else 0,if start=false/\(que W k.toNat).length=0 then 8 else 0]
def zfd(W:Wl)(k:Int)(start:Bool):Wl:=if zdL W k start=0 then (prg W k.toNat).foldl (doW k.toNat) (zbM W k.toNat start) else zlg
def zdC(W:Wl)(p:Int × Bool):Wl:=if zdL W p.1 p.2=0 then zfd W p.1 p.2 else W
def znv:Wl->List (Int × Bool)->List Int
 | _,[]=>[]
 | W,p :: l=>zdL W p.1 p.2 :: znv (zdC W p) l
theorem zma{w D:World}{a:Option Addr}{n c:Nat}{p F:Int}(E:Below (w.heap.size+1+1+1) (((w.alloc (.cells #[.slice a n c] 43)).alloc (.cells #[.int .i64 p,.int .i64 F] 61)).alloc (.cells #[.slice none 0 0] 43)) D) :
  D.cell? ⟨w.heap.size,0,none⟩=some (.slice a n c)/\D.cell? ⟨w.heap.size+1,0,none⟩=some (.int .i64 p)/\D.cell? ⟨w.heap.size+1,1,none⟩=some (.int .i64 F)/\D.cell? ⟨w.heap.size+1+1,0,none⟩=some (.slice none 0 0)/\(∀ o,D.frozen? ⟨w.heap.size+1+1,o,none⟩=false):=by
 refine⟨?_,?_,?_,?_,fun o=>?_⟩
 all_goals first|exact(E.cell (by first|(simp;done)|(simp;omega))).trans (by go_simp)|exact(E.frozen (by first|(simp;done)|(simp;omega))).trans (by go_simp)
theorem zrG(a:Option Addr)(c:Nat)(S:List Nd)(p u E:Int)(w:World)(hN:S.length<=9223372036854775807)(I:Big S)(M:zah w a S)(J:zba S [(p,u)]=E)(F:E≠0) :
  Calls Tryz.prog 168 #[.agg #[.slice a S.length c],.agg #[.int .i64 p,.int .i64 u]] w fun e w' => e=.returned (.tuple #[.agg #[.slice none 0 0],.int .i64 E])/\Below w.heap.size w w' := by
 have d1:=fun(W:World) (ha:Option Addr) (hW:zah W a S) (Z:zas W ha [(p,u)])=>zdm a c S ha 1 [(p,u)] W hN I hW (by simp) Z;rw[J] at d1;have O:Hid _:=d1;have U:Hid (zah w a S):=M;clear M d1 J I;have hz:(E == 0)=false:=by simp[F]
 generalize S.length=n at *
 go_enter Tryz.func168,Tryz.ntmps168
 go_wp2_with (go_at_call 185;refine(O.out _ _ (U.out.below (zaI _ _ _ _ _)) (zfn _ _ _ _ (by go_simp) (by go_simp))).mono ?_;rintro e w1 ⟨rfl,D⟩;simp only[yr] at D;obtain⟨l0,l1,l2,l3,l4⟩:=zma (((yk _ _).alloc (by simp) _).trans (D.mono (by omega)));have T:Hid _:=D;clear D)
 refine yv (v:=.tuple #[.agg #[.slice none 0 0],.int .i64 E]) (by simp[results,Tryz.results168,go_sem,l3]) rfl ⟨rfl,?_⟩;exact((zaI _ _ _ _ _).trans (T.out.mono (by omega))).setCell (by simp;omega) _
theorem zpe(a:Option Addr)(c:Nat)(S:List Nd)(D:Nat)(u:Int)(w:World)(hN:S.length<=9223372036854775807)(M:Big S)(T:zah w a S)(O:zba S [((D:Int),u)]=0)(hch:D<S.length)(Z:(nd S D).p = -1) :
  Calls Tryz.prog 168 #[.agg #[.slice a S.length c],.agg #[.int .i64 D,.int .i64 u]] w fun e w' => e=.returned (.tuple #[.agg #[.slice none 0 0],.int .i64 6])/\Below w.heap.size w w' := by
 have d1:=fun(W:World) (ha:Option Addr) (I:zah W a S) (hH:zas W ha [((D:Int),u)])=>zdm a c S ha 1 [((D:Int),u)] W hN M I (by simp) hH;rw[O] at d1;have D1:Hid _:=d1;have J:Hid (zah w a S):=T;have U:(D:Int)<(S.length:Int):=by omega
 have QP:Hid (∀ W,zah W a S->∃ b o,a=some ⟨b,o,none⟩/\W.cell? ⟨b,o+D*8+4,none⟩=some (.int .i64 (-1))):=fun W I=>by
  obtain⟨b,o,e,_,_,_,_,c4,_⟩:=I D hch;exact⟨b,o,e,by rw[c4,Z]⟩
 clear T d1 O M Z;generalize S.length=n at *
 go_enter Tryz.func168,Tryz.ntmps168
 go_wp2_with (go_at_call 185;refine(D1.out _ _ (J.out.below (zaI _ _ _ _ _)) (zfn _ _ _ _ (by go_simp) (by go_simp))).mono ?_;rintro e w1 ⟨rfl,E⟩;simp only[yr] at E;obtain⟨l0,l1,l2,l3,l4⟩:=zma (((yk _ _).alloc (by simp) _).trans (E.mono (by omega)));have F:=(zaI _ _ _ _ _).trans (E.mono (by omega));obtain⟨b,o,rfl,qp⟩:=QP.out _ (J.out.below F);have HB:Hid _:=F;have hq:=yd _ _ qp;clear E F)
 refine yv (v:=.tuple #[.agg #[.slice none 0 0],.int .i64 6]) (by simp[results,Tryz.results168,go_sem,l3]) rfl ⟨rfl,?_⟩;exact HB.out.setCell (by simp;omega) _
theorem zuH(a:Option Addr)(c:Nat)(S:List Nd)(E pa:Nat)(u:Int)(w:World)(hN:S.length<=24)(hB:Big S)(hS:zah w a S)(hE:zba S [((E:Int),u)]=0)(hch:E<S.length)(hpa:pa<S.length)(b1:pa≠E)(hp:(nd S E).p=pa)(hK:∀ i,i<S.length->(nd S i).ks.length<=1000) :
  Calls Tryz.prog 168 #[.agg #[.slice a S.length c],.agg #[.int .i64 E,.int .i64 u]] w fun e w' => ∃ g,e=.returned (.tuple #[.agg #[.slice (some ⟨g,0,none⟩) S.length S.length],.int .i64 0])/\Below w.heap.size w w' /\ w.heap.size<=g/\∀ w3:World,(∀ b,g<=b->w3.heap[b]?=w'.heap[b]?)->zah w3 (some ⟨g,0,none⟩) (zbD S pa E):=by
 have d1:=fun(W:World) (ha:Option Addr) (hW:zah W a S) (hH:zas W ha [((E:Int),u)])=>zdm a c S ha 1 [((E:Int),u)] W (by omega) hB hW (by simp) hH;rw[hE] at d1;have D1:Hid _:=d1;have HS:Hid (zah w a S):=hS;have b3:(E:Int)<(S.length:Int):=by omega
 have QP:Hid (∀ W,zah W a S->∃ b o,a=some ⟨b,o,none⟩/\W.cell? ⟨b,o+E*8+4,none⟩=some (.int .i64 (pa:Int))):=fun W hW=>by
  obtain⟨b,o,e,_,_,_,_,c4,_⟩:=hW E hch;exact⟨b,o,e,by rw[c4,hp]⟩
 have dc:=fun(W:World) (hW:zah W a S)=>copy_any a c S W hN hK hW;have DC:Hid _:=dc;have dl:=fun(B g c:Nat) (kb kc:Nat->Nat) (W:World) (hO:Own W B g S kb kc S.length)=>znd B g c S kb kc pa E W hO hpa hch b1 hp;have DL:Hid _:=dl
 have OC:Hid (∀ (wr:World) (B g:Nat) (kb kc:Nat->Nat),Own wr B g S kb kc S.length->B<=g/\g<wr.heap.size/\g<kb pa/\kb pa<wr.heap.size):=fun wr B g kb kc h=>by
  obtain⟨hB,F,hF,a9,hg,_⟩:=h;exact⟨hB,hF.lt,hg pa hpa,(a9 pa hpa).row⟩
 clear hS d1 hE hB hp dc dl hK;generalize hn:S.length=n at *;have HN:Hid _:=hn;clear hn
 go_enter Tryz.func168,Tryz.ntmps168
 go_wp2_with (go_at_call 185;refine(D1.out _ _ (HS.out.below (zaI _ _ _ _ _)) (zfn _ _ _ _ (by go_simp) (by go_simp))).mono ?_;rintro e w1 ⟨rfl,I⟩;simp only[yr] at I;have M:Hid (Below (w.heap.size+1+1+1) (((w.alloc (.cells #[.slice a n c] 43)).alloc (.cells #[.int .i64 (E:Int),.int .i64 u] 61)).alloc (.cells #[.slice none 0 0] 43)) w1):=((yk _ _).alloc (by simp) _).trans (I.mono (by omega));obtain⟨l0,l1,l2,U,l4⟩:=zma M.out;have T:=(zaI _ _ _ _ _).trans (I.mono (by omega));obtain⟨b,o,ea,qp⟩:=QP.out _ (HS.out.below T);have HB:Hid _:=T;have hq:=yd _ _ qp;have b8:=yd _ _ l0;have c6:=yd _ _ l1;have c7:=yd _ _ U;subst ea;clear I T)
 refine(DC.out _ (HS.out.below HB.out)).mono ?_;rintro e Z ⟨g,kb,kc,rfl,J,O⟩;obtain⟨b4,b6,b5,b7⟩:=OC.out _ _ _ _ _ O;have c9:=J.size;have H7:Hid _:=M.out.trans (J.mono (by have:=M.out.size;simp at this;omega));have a8:Hid (Own Z w1.heap.size g S kb kc n):=O;have a5:Hid (Below w.heap.size w Z):=HB.out.trans (J.mono HB.out.size);clear l0 l1 l2 U l4 J O;obtain⟨l0,l1,l2,U,l4⟩:=zma H7.out;have L1:=zcN l1;have L3:=zcN U;have c8:=yd _ _ l0;have b0:=yd _ _ U
 go_wp2_with fail
 refine(DL.out _ g n kb kc _ (Own.below a8.out ((yk _ _).alloc (yj _) _))).mono ?_;rintro e w9 ⟨rfl,D,a6⟩;have b9:=(D.cell (p:=⟨Z.heap.size,0,none⟩) (by simp) (by show ¬ (Z.heap.size=g\/Z.heap.size=kb pa);omega)).trans (show _=some (Value.slice (some ⟨g,0,none⟩) n n) by go_simp);have r9:=(D.cell (p:=⟨w.heap.size+1+1,0,none⟩) (by simp;omega) (by show ¬ (w.heap.size+1+1=g\/w.heap.size+1+1=kb pa);omega)).trans (L3 _);have f9:=fun o=>(D.frozen (p:=⟨w.heap.size+1+1,o,none⟩) (by simp;omega) (by show ¬ (w.heap.size+1+1=g\/w.heap.size+1+1=kb pa);omega)).trans ((((yk _ Z).alloc (yj _) (.cells #[.slice (some ⟨g,0,none⟩) n n] 43)).frozen (by exact b0)).trans (l4 o));have a7:Hid (Below w.heap.size w w9):=(a5.out.alloc a5.out.size _).trans (D.below (by simp;omega) (fun k hk=>by rcases hk with hk|hk <;> omega));have NS:Hid (∀ v (w3:World),(∀ b,g<=b->w3.heap[b]?=(w9.setCell ⟨w.heap.size+1+1,0,none⟩ v).heap[b]?)->zah w3 (some ⟨g,0,none⟩) (zbD S pa E)):=fun v w3 b2=>Own.up a6 _ (fun b hb=>(b2 b hb).trans (ys _ _ _ _ (by show b≠w.heap.size+1+1;omega)));clear a6 D l0 l1 l2 U l4 L1 L3
 go_wp2
 refine yv (v:=.tuple #[.agg #[.slice (some ⟨g,0,none⟩) n n],.int .i64 0]) (by simp[results,Tryz.results168,go_sem,r9]) rfl ⟨g,rfl,a7.out.setCell (by simp;omega) _,by omega,NS.out _⟩
def zkf(w:World)(a:Option Addr)(C:List (List Cl)):Prop :=
 ∀ i,i<C.length->∃ b o ga gc,a=some ⟨b,o,none⟩/\w.cell? ⟨b,o+i,none⟩=some (.slice ga (gr C i).length gc)/\zaG w ga (gr C i)
theorem zkf.below{w w' : World}{a:Option Addr}{C:List (List Cl)}(h:zkf w a C)(D:Below w.heap.size w w'):zkf w' a C:=fun i hi=>by
 obtain⟨b,o,ga,gc,e,h1,E⟩:=h i hi;exact⟨b,o,ga,gc,e,zab h1 D,E.below D⟩
theorem zvT(w:World):zkf w none []:=fun i hi=>absurd hi (yw _)
def zze(C:List (List Cl)):Prop:=∀ i,i<C.length->(gr C i).length<=9223372036854775807/\zkz (gr C i)
def zzj(w:World)(a:Option Addr)(c:Nat)(C:List (List Cl)):Prop:=((a=none->c=0)/\C.length<=c/\c<=9223372036854775807)/\zkf w a C
theorem zzj.below{w w' : World}{a:Option Addr}{c:Nat}{C:List (List Cl)}(h:zzj w a c C)(D:Below w.heap.size w w'):zzj w' a c C:=⟨h.1,h.2.below D⟩
def zzl(w:World)(b o:Nat)(x:Pt):Prop :=
 w.cell? ⟨b,o,none⟩=some (.int .i64 x.o)/\w.cell? ⟨b,o+1,none⟩=some (.int .i64 x.t)/\w.cell? ⟨b,o+2,none⟩=some (.int .i64 x.m)/\∃ D E,w.cell? ⟨b,o+3,none⟩=some (.slice D x.cm.length E)/\zzj w D E x.cm/\w.cell? ⟨b,o+4,none⟩=some (.bool x.s)
theorem zzl.below{w w' : World}{b o:Nat}{x:Pt}(h:zzl w b o x)(D:Below w.heap.size w w'):zzl w' b o x:=by
 obtain⟨c0,c1,c2,E,F,c3,hg,c4⟩:=h;exact⟨zab c0 D,zab c1 D,zab c2 D,E,F,zab c3 D,hg.below D,zab c4 D⟩
def zbR(w:World)(a:Option Addr)(L:List Pt):Prop :=
 ∀ i,i<L.length->∃ b o,a=some ⟨b,o,none⟩/\zzl w b (o+i*5) (pt L i)
theorem zbR.below{w w' : World}{a:Option Addr}{L:List Pt}(h:zbR w a L)(D:Below w.heap.size w w'):zbR w' a L:=fun i hi=>by
 obtain⟨b,o,e,hn⟩:=h i hi;exact⟨b,o,e,hn.below D⟩
theorem zwL(w:World):zbR w none []:=fun i hi=>absurd hi (yw _)
def zmu(L:List Pt):Prop:=∀ i,i<L.length->(pt L i).cm.length<=9223372036854775807/\zze (pt L i).cm
theorem zot{C:List (List Cl)}{j:Nat}(h:j<C.length):zbo (C.drop j)=if zav (gr C j)=0 then zbo (C.drop (j+1)) else zav (gr C j):=by
 rw[List.drop_eq_getElem_cons h,zbo,zhK h]
theorem zqO(C:List (List Cl)):zbo (C.drop C.length)=0:=by
 rw[List.drop_length];rfl
theorem zwf:(Tryz.prog.info? 121).map (fun i=>(i.zero,i.size,i.bytes))=some (some (.agg #[.int .i64 0,.int .i64 0,.int .i64 0,.slice none 0 0,.bool false]),5,56):=by kernel_rfl
def zcQ(x:Pt)(v:Value):List Value:=[.int .i64 x.o,.int .i64 x.t,.int .i64 x.m,v,.bool x.s]
def zcb(L:List Pt)(K:Nat->Value):List Value:=(List.range L.length).flatMap fun i=>zcQ (pt L i) (K i)
theorem zus(x:Pt)(v:Value):(zcQ x v).length=5:=rfl
theorem zej(L:List Pt)(K:Nat->Value):∀ q,((List.range q).flatMap fun i=>zcQ (pt L i) (K i)).length=q*5
 | 0=>rfl
 | q+1=>by rw[List.range_succ,List.flatMap_append,List.length_append,zej L K q];simp[zcQ];omega
theorem zbL(L:List Pt)(K:Nat->Value):(zcb L K).length=L.length*5:=zej L K _
theorem zns(L:List Pt)(K:Nat->Value){i j:Nat}(D:j<5):∀ {q:Nat},i<q->((List.range q).flatMap fun i=>zcQ (pt L i) (K i))[i*5+j]?=(zcQ (pt L i) (K i))[j]?
 | 0,hi=>by omega
 | q+1,hi=>by
  rw[List.range_succ,List.flatMap_append];by_cases h:i<q
  ·rw[List.getElem?_append_left (by rw[zej];omega)];exact zns L K D h
  ·have e:i=q:=by omega
   subst e;rw[List.getElem?_append_right (by rw[zej];omega),zej,show i*5+j-i*5=j by omega];simp
theorem zeh{L:List Pt}{K:Nat->Value}{i j:Nat}(hi:i<L.length)(D:j<5):(zcb L K)[i*5+j]?=(zcQ (pt L i) (K i))[j]?:=zns L K D hi
theorem zhR{L:List Pt}{K:Nat->Value}{D:List Value}(hl:D.length=L.length*5)(h:∀ i j,i<L.length->j<5->D[i*5+j]?=(zcQ (pt L i) (K i))[j]?):D=zcb L K:=by
 refine List.ext_getElem? (fun m=>?_);by_cases E:m<L.length*5
 ·have e:m=m / 5*5+m % 5:=by omega
  have h1:=h (m / 5) (m % 5) (by omega) (by omega);rw[<- e] at h1;rw[h1,<- zeh (L:=L) (K:=K) (by omega) (by omega),<- e]
 ·rw[List.getElem?_eq_none (by omega),List.getElem?_eq_none (by rw[zbL];omega)]
theorem zrz{L:List Pt}{K:Nat->Value}{k f:Nat}{u v:Value}{x:Pt}(J:k<L.length)(I:f<5)(F:zcQ x v=(zcQ (pt L k) (K k)).set f u) :
  (zcb L K).set (k*5+f) u=zcb (L.set k x) (fun i=>if i=k then v else K i):=by
 refine zhR (by rw[List.length_set,zbL,List.length_set]) (fun i j hi E=>?_);rw[List.length_set] at hi;rw[zjE hi];by_cases e:k=i
 ·subst e;rw[yb rfl];simp only[if_true];rw[F,List.getElem?_set];by_cases D:f=j
  ·subst D;rw[yb rfl,yb (by rw[zbL];omega),List.getElem?_set_self (by rw[zus];omega)]
  ·rw[ya (by omega),zeh hi E,List.getElem?_set_ne D]
 ·rw[ya e,List.getElem?_set_ne (by omega),zeh hi E];simp only[ya (show ¬ i=k from fun h=>e h.symm)]
theorem zjC(L:List Pt)(K:Nat->Value)(x:Pt)(v:Value):zcb L K++zcQ x v=zcb (L++[x]) (fun i=>if i=L.length then v else K i):=by
 refine zhR (by rw[List.length_append,zbL,List.length_append];simp[zcQ];omega) (fun i j hi E=>?_);rw[List.length_append,List.length_singleton] at hi;by_cases e:i<L.length
 ·rw[List.getElem?_append_left (by rw[zbL];omega),zeh e E,zlZ e];simp only[ya (show ¬ i=L.length by omega)]
 ·have D:i=L.length:=by omega
  subst D;rw[List.getElem?_append_right (by rw[zbL];omega),zbL,show L.length*5+j-L.length*5=j by omega,zuv];simp only[if_true]
def znO(w:World)(v:Value)(C:List (List Cl)):Prop:=∃ D E,v=.slice D C.length E/\zzj w D E C
theorem znO.below{w w' : World}{v:Value}{C:List (List Cl)}(h:znO w v C)(F:Below w.heap.size w w'):znO w' v C:=by
 obtain⟨D,E,e,hg⟩:=h;exact⟨D,E,e,hg.below F⟩
theorem znO.nil(w:World):znO w (.slice none 0 0) []:=⟨none,0,rfl,⟨fun _=>rfl,yj _,by omega⟩,zvT w⟩
theorem zux{B:Nat}{w:World}{v:Value}{L:List Pt}{K:Nat->Value}(h:w.ownsRow B 121 5 v L.length (zcb L K))(hg:∀ i,i<L.length->znO w (K i) (pt L i).cm):∃ a c,v=.slice a L.length c/\zbR w a L:=by
 have hc:=fun g hg=>h.cells (g:=g) hg;rcases h.2 with ⟨rfl,h0⟩ |⟨g,cap,J,rfl,_⟩
 ·exact⟨none,0,by rw[h0],fun i hi=>by omega⟩
 ·refine⟨some ⟨g,0,none⟩,cap,rfl,fun i hi=>⟨g,0,rfl,?_⟩⟩
  have D:∀ j u,j<5->(zcQ (pt L i) (K i))[j]?=some u->w.cell? ⟨g,0+i*5+j,none⟩=some u:=fun j u M O=>by
   have:=hc g rfl (i*5+j) u (by rw[zeh hi M];exact O);rw[yz]
   rwa [Addr.add_lit,yz] at this
  obtain⟨F,I,e,E⟩:=hg i hi;exact⟨D 0 _ (by omega) rfl,D 1 _ (by omega) rfl,D 2 _ (by omega) rfl,F,I,D 3 _ (by omega) (by rw[<- e];rfl),E,D 4 _ (by omega) rfl⟩
structure zzs (lo hi:Nat) (w w' : World):Prop where
 os:w'.os=w.os
 tape:w'.tape=w.tape
 output:w'.output=w.output
 size:w'.heap.size=w.heap.size
 block:∀ b,¬ (lo<=b/\b<hi)->w'.heap[b]?=w.heap[b]?
theorem zzs.refl(lo hi:Nat)(w:World):zzs lo hi w w:=⟨rfl,rfl,rfl,rfl,fun _ _=>rfl⟩
def zuX(H E:Int):Int:=if H≠0 then H else E
def ziU(X:Nat->Prop)(w:World)(a:Option Addr)(G:List Cl):Prop:=∀ w', zaq X w w' -> zaG w' a G
theorem ziU.at{X:Nat->Prop}{w:World}{a:Option Addr}{G:List Cl}(h:ziU X w a G):zaG w a G:=h w (zaq.refl X w)
theorem ziU.off{X:Nat->Prop}{w w' : World}{a:Option Addr}{G:List Cl}(h:ziU X w a G)(F:zaq X w w'):ziU X w' a G:=fun D E=>h D (F.trans E)
theorem ziU.grow{X Y:Nat->Prop}{w E:World}{a:Option Addr}{G:List Cl}(h:ziU X w a G)(D:zaq X w E)(I:∀ b,b<w.heap.size->Y b->X b):ziU Y E a G:=fun w' F=>h w' (zlS D.size D.block I F)
end Go.Proofs.YtcbcpomacdngmaaGreat
