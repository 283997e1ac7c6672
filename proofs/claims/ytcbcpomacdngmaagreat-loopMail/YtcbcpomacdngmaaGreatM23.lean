/-
  x
-/
import Derived.Test.YtcbcpomacdngmaaGreatM22
namespace Go.Proofs.YtcbcpomacdngmaaGreat
set_option maxRecDepth 100000
set_option maxHeartbeats 4000000
set_option linter.unusedVariables false
open Go.RowKit
theorem zlQ{w w1:World}{a:Option Addr}{n c:Nat}{p E:Int}(D:Below (w.heap.size+1+1+1) (((w.alloc (.cells #[.slice a n c] 43)).alloc (.cells #[.int .i64 p,.int .i64 E] 61)).alloc (.cells #[.slice none 0 0] 43)) w1) :
  w1.cell? ⟨w.heap.size,0,none⟩=some (.slice a n c)/\w1.cell? ⟨w.heap.size+1,0,none⟩=some (.int .i64 p)/\w1.cell? ⟨w.heap.size+1,1,none⟩=some (.int .i64 E)/\w1.cell? ⟨w.heap.size+1+1,0,none⟩=some (.slice none 0 0)/\(∀ o,w1.frozen? ⟨w.heap.size+1+1,o,none⟩=false):=by
 refine⟨?_,?_,?_,?_,fun o=>?_⟩
 all_goals first|exact(D.cell (by first|(simp;done)|(simp;omega))).trans (by go_simp)|exact(D.frozen (by first|(simp;done)|(simp;omega))).trans (by go_simp)
theorem zrm(a:Option Addr)(c:Nat)(S:List Nd)(p u E:Int)(w:World)(hN:S.length<=9223372036854775807)(I:Big S)(M:zah w a S)(J:zbd S [(p,u)]=E)(F:E≠0) :
  yL 168 #[.agg #[.slice a S.length c],.agg #[.int .i64 p,.int .i64 u]] w fun e w' => e=.returned (.tuple #[.agg #[.slice none 0 0],.int .i64 E])/\Below w.heap.size w w' := by
 have d1:=fun(W:World) (ha:Option Addr) (hW:zah W a S) (Z:zaw W ha [(p,u)])=>zdq a c S ha 1 [(p,u)] W hN I hW (by simp) Z;rw[J] at d1;have O:Hid _:=d1;have U:Hid (zah w a S):=M;clear M d1 J I;have hz:(E == 0)=false:=by simp[F]
 generalize S.length=n at *
 go_enter Tryz.func168,Tryz.ntmps168
 go_wp2_with (go_at_call 185;refine(O.out _ _ (U.out.below (zaH _ _ _ _ _)) (zfe _ _ _ _ (by go_simp) (by go_simp))).mono ?_;rintro e w1 ⟨rfl,D⟩;simp only[yr] at D;obtain⟨l0,l1,l2,l3,l4⟩:=zlQ (((yk _ _).alloc (by simp) _).trans (D.mono (by omega)));have T:Hid _:=D;clear D)
 refine yv (v:=.tuple #[.agg #[.slice none 0 0],.int .i64 E]) (by simp[results,Tryz.results168,go_sem,l3]) rfl ⟨rfl,?_⟩;exact((zaH _ _ _ _ _).trans (T.out.mono (by omega))).setCell (by simp;omega) _
theorem zoL(a:Option Addr)(c:Nat)(S:List Nd)(D:Nat)(u:Int)(w:World)(hN:S.length<=9223372036854775807)(M:Big S)(T:zah w a S)(O:zbd S [((D:Int),u)]=0)(hch:D<S.length)(Z:(nd S D).p = -1) :
  yL 168 #[.agg #[.slice a S.length c],.agg #[.int .i64 D,.int .i64 u]] w fun e w' => e=.returned (.tuple #[.agg #[.slice none 0 0],.int .i64 6])/\Below w.heap.size w w' := by
 have d1:=fun(W:World) (ha:Option Addr) (I:zah W a S) (hH:zaw W ha [((D:Int),u)])=>zdq a c S ha 1 [((D:Int),u)] W hN M I (by simp) hH;rw[O] at d1;have D1:Hid _:=d1;have J:Hid (zah w a S):=T;have U:(D:Int)<(S.length:Int):=by omega
 have QP:Hid (∀ W,zah W a S->∃ b o,a=some ⟨b,o,none⟩/\W.cell? ⟨b,o+D*8+4,none⟩=some (.int .i64 (-1))):=fun W I=>by
  obtain⟨b,o,e,_,_,_,_,c4,_⟩:=I D hch;exact⟨b,o,e,by rw[c4,Z]⟩
 clear T d1 O M Z;generalize S.length=n at *
 go_enter Tryz.func168,Tryz.ntmps168
 go_wp2_with (go_at_call 185;refine(D1.out _ _ (J.out.below (zaH _ _ _ _ _)) (zfe _ _ _ _ (by go_simp) (by go_simp))).mono ?_;rintro e w1 ⟨rfl,E⟩;simp only[yr] at E;obtain⟨l0,l1,l2,l3,l4⟩:=zlQ (((yk _ _).alloc (by simp) _).trans (E.mono (by omega)));have F:=(zaH _ _ _ _ _).trans (E.mono (by omega));obtain⟨b,o,rfl,qp⟩:=QP.out _ (J.out.below F);have HB:Hid _:=F;have hq:=yd _ _ qp;clear E F)
 refine yv (v:=.tuple #[.agg #[.slice none 0 0],.int .i64 6]) (by simp[results,Tryz.results168,go_sem,l3]) rfl ⟨rfl,?_⟩;exact HB.out.setCell (by simp;omega) _
theorem zuq(a:Option Addr)(c:Nat)(S:List Nd)(E pa:Nat)(u:Int)(w:World)(hN:S.length<=24)(hB:Big S)(hS:zah w a S)(hE:zbd S [((E:Int),u)]=0)(hch:E<S.length)(hpa:pa<S.length)(b1:pa≠E)(hp:(nd S E).p=pa)(hK:∀ i,i<S.length->(nd S i).ks.length<=1000) :
  yL 168 #[.agg #[.slice a S.length c],.agg #[.int .i64 E,.int .i64 u]] w fun e w' => ∃ g,e=.returned (.tuple #[.agg #[.slice (some ⟨g,0,none⟩) S.length S.length],.int .i64 0])/\Below w.heap.size w w' /\ w.heap.size<=g/\∀ w3:World,(∀ b,g<=b->w3.heap[b]?=w'.heap[b]?)->zah w3 (some ⟨g,0,none⟩) (zbG S pa E):=by
 have d1:=fun(W:World) (ha:Option Addr) (hW:zah W a S) (hH:zaw W ha [((E:Int),u)])=>zdq a c S ha 1 [((E:Int),u)] W (by omega) hB hW (by simp) hH;rw[hE] at d1;have D1:Hid _:=d1;have HS:Hid (zah w a S):=hS;have b3:(E:Int)<(S.length:Int):=by omega
 have QP:Hid (∀ W,zah W a S->∃ b o,a=some ⟨b,o,none⟩/\W.cell? ⟨b,o+E*8+4,none⟩=some (.int .i64 (pa:Int))):=fun W hW=>by
  obtain⟨b,o,e,_,_,_,_,c4,_⟩:=hW E hch;exact⟨b,o,e,by rw[c4,hp]⟩
 have dc:=fun(W:World) (hW:zah W a S)=>copy_any a c S W hN hK hW;have DC:Hid _:=dc;have dl:=fun(B g c:Nat) (kb kc:Nat->Nat) (W:World) (hO:Own W B g S kb kc S.length)=>zmS B g c S kb kc pa E W hO hpa hch b1 hp;have DL:Hid _:=dl
 have OC:Hid (∀ (wr:World) (B g:Nat) (kb kc:Nat->Nat),Own wr B g S kb kc S.length->B<=g/\g<wr.heap.size/\g<kb pa/\kb pa<wr.heap.size):=fun wr B g kb kc h=>by
  obtain⟨hB,F,hF,a9,hg,_⟩:=h;exact⟨hB,hF.lt,hg pa hpa,(a9 pa hpa).row⟩
 clear hS d1 hE hB hp dc dl hK;generalize hn:S.length=n at *;have HN:Hid _:=hn;clear hn
 go_enter Tryz.func168,Tryz.ntmps168
 go_wp2_with (go_at_call 185;refine(D1.out _ _ (HS.out.below (zaH _ _ _ _ _)) (zfe _ _ _ _ (by go_simp) (by go_simp))).mono ?_;rintro e w1 ⟨rfl,I⟩;simp only[yr] at I;have M:Hid (Below (w.heap.size+1+1+1) (((w.alloc (.cells #[.slice a n c] 43)).alloc (.cells #[.int .i64 (E:Int),.int .i64 u] 61)).alloc (.cells #[.slice none 0 0] 43)) w1):=((yk _ _).alloc (by simp) _).trans (I.mono (by omega));obtain⟨l0,l1,l2,U,l4⟩:=zlQ M.out;have T:=(zaH _ _ _ _ _).trans (I.mono (by omega));obtain⟨b,o,ea,qp⟩:=QP.out _ (HS.out.below T);have HB:Hid _:=T;have hq:=yd _ _ qp;have b8:=yd _ _ l0;have c6:=yd _ _ l1;have c7:=yd _ _ U;subst ea;clear I T)
 refine(DC.out _ (HS.out.below HB.out)).mono ?_;rintro e Z ⟨g,kb,kc,rfl,J,O⟩;obtain⟨b4,b6,b5,b7⟩:=OC.out _ _ _ _ _ O;have c9:=J.size;have H7:Hid _:=M.out.trans (J.mono (by have:=M.out.size;simp at this;omega));have a8:Hid (Own Z w1.heap.size g S kb kc n):=O;have a5:Hid (Below w.heap.size w Z):=HB.out.trans (J.mono HB.out.size);clear l0 l1 l2 U l4 J O;obtain⟨l0,l1,l2,U,l4⟩:=zlQ H7.out;have L1:=zcO l1;have L3:=zcO U;have c8:=yd _ _ l0;have b0:=yd _ _ U
 go_wp2_with fail
 refine(DL.out _ g n kb kc _ (Own.below a8.out ((yk _ _).alloc (yj _) _))).mono ?_;rintro e w9 ⟨rfl,D,a6⟩;have b9:=(D.cell (p:=⟨Z.heap.size,0,none⟩) (by simp) (by show ¬ (Z.heap.size=g\/Z.heap.size=kb pa);omega)).trans (show _=some (Value.slice (some ⟨g,0,none⟩) n n) by go_simp);have r9:=(D.cell (p:=⟨w.heap.size+1+1,0,none⟩) (by simp;omega) (by show ¬ (w.heap.size+1+1=g\/w.heap.size+1+1=kb pa);omega)).trans (L3 _);have f9:=fun o=>(D.frozen (p:=⟨w.heap.size+1+1,o,none⟩) (by simp;omega) (by show ¬ (w.heap.size+1+1=g\/w.heap.size+1+1=kb pa);omega)).trans ((((yk _ Z).alloc (yj _) (.cells #[.slice (some ⟨g,0,none⟩) n n] 43)).frozen (by exact b0)).trans (l4 o));have a7:Hid (Below w.heap.size w w9):=(a5.out.alloc a5.out.size _).trans (D.below (by simp;omega) (fun k hk=>by rcases hk with hk|hk <;> omega));have NS:Hid (∀ v (w3:World),(∀ b,g<=b->w3.heap[b]?=(w9.setCell ⟨w.heap.size+1+1,0,none⟩ v).heap[b]?)->zah w3 (some ⟨g,0,none⟩) (zbG S pa E)):=fun v w3 b2=>Own.up a6 _ (fun b hb=>(b2 b hb).trans (ys _ _ _ _ (by show b≠w.heap.size+1+1;omega)));clear a6 D l0 l1 l2 U l4 L1 L3
 go_wp2
 refine yv (v:=.tuple #[.agg #[.slice (some ⟨g,0,none⟩) n n],.int .i64 0]) (by simp[results,Tryz.results168,go_sem,r9]) rfl ⟨g,rfl,a7.out.setCell (by simp;omega) _,by omega,NS.out _⟩
theorem zan.frames{W:Wl}(H:zan W){L:List Fr}(D:zcl L)(hl:L.length=W.fs.length):zan { W with fs:=L } :=
 ⟨D,H.lr.trans hl.symm,H.lp.trans hl.symm,H.lq.trans hl.symm,fun i hi=>H.rs i (by rw[<- hl];exact hi),fun i hi=>H.ps i (by rw[<- hl];exact hi),fun i hi=>by show zbW L.length _=0;rw[hl];exact H.qs i (by rw[<- hl];exact hi),by show zds W.pt (L.length:Int);rw[hl];exact H.pt⟩
theorem zan.ports{W:Wl}(H:zan W){P:List Pt}(D:zds P W.fs.length):zan { W with pt:=P }:=⟨H.fs,H.lr,H.lp,H.lq,H.rs,H.ps,H.qs,D⟩
theorem zan.queue{W:Wl}(H:zan W){a:Nat}{q:List Ml}(ha:a<W.fs.length)(D:zbW W.fs.length q=0):zan { W with qs:=W.qs.set a q } :=
 ⟨H.fs,H.lr,H.lp,by show (W.qs.set a q).length=_;rw[List.length_set];exact H.lq,H.rs,H.ps,fun i hi=>by
  show zbW W.fs.length ((W.qs.set a q).getD i [])=0;rw[zba _ _ _ _ _ (by rw[H.lq];exact ha)];split
  ·exact D
  ·exact H.qs i hi,H.pt⟩
theorem zan.prog{W:Wl}(H:zan W){a:Nat}{q:List Ac}(ha:a<W.fs.length)(D:q.length<=40):zan { W with ps:=W.ps.set a q } :=
 ⟨H.fs,H.lr,by show (W.ps.set a q).length=_;rw[List.length_set];exact H.lp,H.lq,H.rs,fun i hi=>by
  show ((W.ps.set a q).getD i []).length<=40;rw[zba _ _ _ _ _ (by rw[H.lp];exact ha)];split
  ·exact D
  ·exact H.ps i hi,H.qs,H.pt⟩
theorem zdy{L:List Fr}{k:Int}(h:zax L k=0):∃ q:Nat,k=q/\q<L.length/\(fr L q).g=false:=zfD h
theorem zjb{W:Wl}(H:zan W)(k:Nat)(n:Int):zan { W with fs:=zjR W.fs n }:=H.frames (zsF H.fs n) (zdu _ _)
theorem zkX{W:Wl}(H:zan W){k:Nat}(T:k<W.fs.length){a n:Int}(h:zao [zdF W.fs k a 3,zbk (rlm W k) n,if (que W a.toNat).length=16 then 1 else 0]=0) :
  zan { W with qs:=W.qs.set a.toNat (que W a.toNat++[⟨k,zaW (rlm W k) n.toNat⟩]) }:=by
 obtain⟨h1,h⟩:=zat h;obtain⟨J,h⟩:=zat h;obtain⟨F,_⟩:=zat h;obtain⟨_,_,M,_⟩:=zbR h1;obtain⟨q,rfl,I,_⟩:=zdy M;obtain⟨m,rfl,O,E⟩:=zeG J;rw[yi] at F |-;rw[yi];obtain⟨g1,g2⟩:=zbs.1 (H.qs q I);refine H.queue I (zbs.2 ⟨?_,fun x D=>?_⟩)
 ·rw[List.length_append];by_cases e:(que W q).length=16
  ·rw[yb e] at F;omega
  ·simp;omega
 ·rcases List.mem_append.1 D with D|D
  ·exact g2 x D
  ·have:x=⟨k,zaW (rlm W k) m⟩:=(by simpa using D);subst this;exact⟨⟨by show (0:Int)<=(k:Int);omega,by show (k:Int)<=(W.fs.length:Int)-1;omega⟩,zbx.2 (zgs O E)⟩
theorem zsU{W:Wl}(H:zan W){k:Nat}{n a:Int}(h:zao [zdF W.fs k n 5,goE W.fs n a]=0) :
  zan { fs:=goF W.fs n a,rs:=W.rs.set n.toNat (zdm (rlm W n.toNat).s.length),ps:=W.ps.set n.toNat [],qs:=W.qs.set n.toNat [],pt:=W.pt }:=by
 obtain⟨h1,h⟩:=zat h;obtain⟨F,_⟩:=zat h;obtain⟨_,_,I,_⟩:=zbR h1;obtain⟨q,rfl,D,_⟩:=zdy I;rw[yi];have hs:=(zay (H.rs q D)).1.small;have H1:=H.setR (zji _ hs).1 D;have H2:=zan.prog (q:=[]) H1 D (by simp);have E:=zan.queue (q:=[]) H2 D rfl;exact zan.frames (L:=goF W.fs q a) E (zpi F) (zgU _ _ _)
theorem zjl{W:Wl}(H:zan W){k:Nat}(h:zfq W.pt (many W) k (zaB W k)=0):zan { W with pt:=zct W.pt k (zaB W k) }:=by
 unfold zfq at h;by_cases h1:zbf W.pt (many W)=0
 ·rw[ya (yI h1)] at h;by_cases D:0<=(k:Int)/\(k:Int)<many W
  ·rw[ya (yI D)] at h;by_cases E:0<=zaB W k/\zaB W k<=1000
   ·rw[ya (yI E)] at h;by_cases F:10<W.pt.length
    ·rw[yb F] at h;omega
    ·exact H.ports (H.pt.open (by omega) D E)
   ·rw[yb E] at h;omega
  ·rw[yb D] at h;omega
 ·rw[yb h1] at h;exact absurd h h1
theorem zjn{W:Wl}(H:zan W){k:Nat}{a n:Int}(h:zkm W.pt (many W) n k (zaB W k) a (zaB W a)=0):zan { W with pt:=zhG W.pt n a (zaB W a) }:=by
 unfold zkm at h;by_cases h1:zaU W.pt (many W) n k (zaB W k)=0
 ·rw[ya (yI h1)] at h;by_cases D:0<=a/\a<many W
  ·rw[ya (yI D)] at h;by_cases E:0<=zaB W a/\zaB W a<=1000
   ·obtain⟨R,q,rfl,F,_,_,hs⟩:=zcm h1;obtain⟨_,_,_,_,h5,I⟩:=zbm.1 (R.ok q F);unfold zhG;rw[yi];exact H.ports (R.set F rfl D E h5.1 h5.2 I)
   ·rw[yb E] at h;omega
  ·rw[yb D] at h;omega
 ·rw[yb h1] at h;exact absurd h h1
theorem zjr{W:Wl}(H:zan W){k:Nat}{n:Int}{g:List Cl}(h:zhL W.pt (many W) n k (zaB W k) g=0):zan { W with pt:=ziv W.pt n g }:=by
 unfold zhL at h;by_cases h1:zaU W.pt (many W) n k (zaB W k)=0
 ·rw[ya (yI h1)] at h;by_cases E:zaz g=0
  ·rw[ya (yI E)] at h;by_cases F:(zkj W.pt n).s=true
   ·rw[yb F] at h;omega
   ·rw[ya F] at h;by_cases J:(zkj W.pt n).cm.length=16
    ·rw[yb J] at h;omega
    ·obtain⟨R,q,rfl,Z,_,_,hs⟩:=zcm h1;obtain⟨m,M,D,T,U⟩:=R.mate Z;obtain⟨p1,p2,p3,p4,p5,p6⟩:=zbm.1 (R.ok m D);have e:zkj W.pt (q:Int)=pt W.pt m:=(by unfold zkj;rw[yi,M,yi]);unfold ziv;rw[e] at F J |-;rw[yi,M,yi];refine H.ports (R.set D rfl p1 p4 (by show ((pt W.pt m).cm++[zbw g]).length<=16;rw[List.length_append];simp;have:=p5.1;omega) (fun hs=>absurd hs F) ?_);rw[zcj];intro i hi;by_cases I:i<(pt W.pt m).cm.length
     ·show Right (gr ((pt W.pt m).cm++[zbw g]) i);rw[zob I];exact zcj.1 p6 i I
     ·have O:i=(pt W.pt m).cm.length:=(by simp at hi;omega);subst O;show Right (gr ((pt W.pt m).cm++[zbw g]) _);rw[zoa];exact(zbx.1 E).copy
  ·rw[yb E] at h;exact absurd h E
 ·rw[yb h1] at h;exact absurd h h1
theorem zgu{W:Wl}(H:zan W){k:Nat}(F:k<W.fs.length){n:Int}(h:zfu W.pt (many W) n k (zaB W k)=0):zan { setR W k { rlm W k with i:=gr (pt W.pt n.toNat).cm 0 } with pt:=zhK W.pt n }:=by
 unfold zfu at h;by_cases h1:zaU W.pt (many W) n k (zaB W k)=0
 ·rw[ya (yI h1)] at h;by_cases E:(pt W.pt n.toNat).cm.length=0
  ·rw[yb E] at h;omega
  ·obtain⟨R,q,rfl,I,_,_,hs⟩:=zcm h1;rw[yi] at E |-;obtain⟨M,Z,p3,O,J,T⟩:=zbm.1 (R.ok q I);have hg:=zcj.1 T;obtain⟨r1,r2,r3,U⟩:=zay (H.rs k F);have H1:=H.setR (R:={ rlm W k with i:=gr (pt W.pt q).cm 0 }) (zeo r1 r2 (zbx.2 (hg 0 (by omega))) U) F;unfold zhK;rw[yi];refine H1.ports (R.set I rfl M O (by show ((pt W.pt q).cm.drop 1).length<=16;rw[List.length_drop];have:=J.1;omega) (fun h=>by have:=J.2 h;omega) ?_);rw[zcj];intro i hi
   have D:i+1<(pt W.pt q).cm.length:=by
    have:i<((pt W.pt q).cm.drop 1).length:=hi;rw[List.length_drop] at this;omega
   show Right (gr ((pt W.pt q).cm.drop 1) i);rw[znZ _ D];exact hg (i+1) D
 ·rw[yb h1] at h;exact absurd h h1
theorem zjE{W:Wl}(H:zan W){k:Nat}{n:Int}(h:zaU W.pt (many W) n k (zaB W k)=0):zan { W with pt:=zhS W.pt n }:=by
 obtain⟨R,q,rfl,D,_,_,hs⟩:=zcm h;obtain⟨E,I,J,F,M,O⟩:=zbm.1 (R.ok q D);unfold zhS;rw[yi];exact H.ports (R.set D rfl E F (by simp) (fun _=>rfl) rfl)
theorem zbC{Es:List Int}{W V:Wl}{o:Int}(H:zan W)(E:zao Es=0->zan V):zan (zeN Es W V o).w:=by
 rcases zpW (Es:=Es) (W:=W) (V:=V) (o:=o) with h |⟨h,D⟩
 ·rw[h];exact H
 ·rw[D];exact E h
theorem zmn{W:Wl}(H:zan W){k:Nat}(D:k<W.fs.length)(x:Ac):zan (zdh W k x).w:=by
 unfold zdh
 repeat' split
 ·exact zbC H (fun _=>H)
 ·exact zbC H (fun _=>zjb H k _)
 ·exact zbC H (fun _=>H)
 ·exact zbC H (fun h=>zkX H D h)
 ·exact zbC H (fun h=>zsU H h)
 ·exact zbC H (fun h=>zjl H (zat h).1)
 ·exact zbC H (fun h=>zjn H (zat (zat h).2).1)
 ·exact zbC H (fun h=>zjr H (zat (zat (zat h).2).2).1)
 ·exact zbC H (fun h=>zgu H D (zat h).1)
 ·exact zbC H (fun h=>zjE H (zat h).1)
 ·exact zbC H (fun h=>H.setR (znT (zat h).1).2.2 D)
theorem zmb{Es:List Int}{W V:Wl}{o:Int}(E:V.fs.length=W.fs.length):(zeN Es W V o).w.fs.length=W.fs.length:=by
 rcases zpW (Es:=Es) (W:=W) (V:=V) (o:=o) with h |⟨h,D⟩
 ·rw[h]
 ·rw[D];exact E
theorem zrX(W:Wl)(k:Nat)(x:Ac):(zdh W k x).w.fs.length=W.fs.length:=by
 unfold zdh
 repeat' split
 all_goals first|exact zmb rfl|exact zmb (zdu _ _)|exact zmb (zgU _ _ _)
theorem zkY{L M:List Fr}(hl:M.length=L.length)(D:∀ j,j<L.length->(fr M j).p=(fr L j).p)(top:Int):∀ (n:Nat) (k:Int),zcW M n k top=zcW L n k top
 | 0,_=>rfl
 | n+1,k=>by
  rw[zcW,zcW,hl];by_cases h:0<=k/\k<L.length
  ·rw[yb h,yb h,D k.toNat (by omega),zkY hl D top n]
  ·rw[ya h,ya h]
theorem zvP{L M:List Fr}(hl:M.length=L.length)(D:∀ j,j<L.length->(fr M j).p=(fr L j).p)(k top:Int):inF M k top=inF L k top:=by
 unfold inF;rw[hl];exact zkY hl D top _ _
structure Aft (k:Nat) (W V:Wl):Prop where
 len:V.fs.length=W.fs.length
 par:∀ j,j<W.fs.length->(fr V.fs j).p=(fr W.fs j).p
 may:∀ j,j<W.fs.length->(fr V.fs j).m=(fr W.fs j).m
 gone:∀ j,j<W.fs.length->(fr W.fs j).g=true->(fr V.fs j).g=true
 turn:∀ j,j<W.fs.length->(fr W.fs j).t<=(fr V.fs j).t
 org:∀ j,j<W.fs.length->(fr V.fs j).t=(fr W.fs j).t->(fr V.fs j).o=(fr W.fs j).o
 moved:∀ j,j<W.fs.length->(fr V.fs j).t≠(fr W.fs j).t->j≠k/\inF W.fs j k=true/\prg V j=[]/\rlm V j=zdm (rlm W j).s.length
 realm:∀ j,j<W.fs.length->(fr V.fs j).t=(fr W.fs j).t->j≠k->rlm V j=rlm W j
 prog:∀ j,j<W.fs.length->(fr V.fs j).t=(fr W.fs j).t->prg V j=prg W j
 que:∀ j,j<W.fs.length->(fr V.fs j).t=(fr W.fs j).t->∃ ex,que V j=que W j++ex/\∀ m ∈ ex,m.f=k/\bits .and .i64 (fr W.fs k).m 2≠0
theorem Aft.refl(k:Nat)(W:Wl):Aft k W W :=
 ⟨rfl,fun _ _=>rfl,fun _ _=>rfl,fun _ _ h=>h,fun _ _=>Int.le_refl _,fun _ _ _=>rfl,fun _ _ h=>absurd rfl h,fun _ _ _ _=>rfl,fun _ _ _=>rfl,fun _ _ _=>⟨[],by simp,fun m D=>by cases D⟩⟩
theorem zwu{n:Nat}(h:n<=24):(zdm n).s.length=n/\(zdm n).t=[]:=by
 rw[(zji n h).2];exact⟨by simp,rfl⟩
theorem Aft.trans{k:Nat}{W V U:Wl}(H:zan W)(h:Aft k W V)(g:Aft k V U)(hk:k<W.fs.length):Aft k W U:=by
 have cv:∀ j,j<W.fs.length->j<V.fs.length:=fun j D=>by rw[h.len];exact D
 have two:∀ j,j<W.fs.length->(fr U.fs j).t=(fr W.fs j).t->(fr V.fs j).t=(fr W.fs j).t/\(fr U.fs j).t=(fr V.fs j).t:=fun j D e=>by
  have a:=h.turn j D;have b:=g.turn j (cv j D);exact⟨by omega,by omega⟩
 refine⟨g.len.trans h.len,fun j D=>(g.par j (cv j D)).trans (h.par j D),fun j D=>(g.may j (cv j D)).trans (h.may j D),fun j D hg=>g.gone j (cv j D) (h.gone j D hg),fun j D=>Int.le_trans (h.turn j D) (g.turn j (cv j D)),fun j D e=>by
  obtain⟨I,E⟩:=two j D e;exact(g.org j (cv j D) E).trans (h.org j D I),fun j D F=>?_,fun j D e F=>?_,fun j D e=>?_,fun j D e=>?_⟩
 ·by_cases e:(fr U.fs j).t=(fr V.fs j).t
  ·obtain⟨M,O,T,Z⟩:=h.moved j D (fun E=>F (e.trans E));exact⟨M,O,(g.prog j (cv j D) e).trans T,by rw[g.realm j (cv j D) e M];exact Z⟩
  ·obtain⟨M,O,T,Z⟩:=g.moved j (cv j D) e;refine⟨M,by rw[<- zvP h.len h.par];exact O,T,?_⟩;rw[Z];by_cases e3:(fr V.fs j).t=(fr W.fs j).t
   ·rw[h.realm j D e3 M]
   ·rw[(h.moved j D e3).2.2.2,(zwu (zay (H.rs j D)).1.small).1]
 ·obtain⟨I,E⟩:=two j D e;exact(g.realm j (cv j D) E F).trans (h.realm j D I F)
 ·obtain⟨I,E⟩:=two j D e;exact(g.prog j (cv j D) E).trans (h.prog j D I)
 ·obtain⟨I,E⟩:=two j D e;obtain⟨x1,q1,p1⟩:=h.que j D I;obtain⟨x2,q2,p2⟩:=g.que j (cv j D) E;refine⟨x1++x2,by rw[q2,q1,List.append_assoc],fun m J=>?_⟩;rcases List.mem_append.1 J with J|J
  ·exact p1 m J
  ·have:=p2 m J
   rwa [h.may k hk] at this
theorem Aft.setR{k:Nat}{W:Wl}{R:Rl}(E:k<W.rs.length):Aft k W (setR W k R) :=
 ⟨rfl,fun _ _=>rfl,fun _ _=>rfl,fun _ _ h=>h,fun _ _=>Int.le_refl _,fun _ _ _=>rfl,fun _ _ h=>absurd rfl h,fun j _ _ D=>by rw[zdB E,ya D],fun _ _ _=>rfl,fun _ _ _=>⟨[],by simp[Go.Proofs.YtcbcpomacdngmaaGreat.que,Go.Proofs.YtcbcpomacdngmaaGreat.setR],fun m F=>by cases F⟩⟩
theorem Aft.ports{k:Nat}{W V:Wl}(h:Aft k W V)(P:List Pt):Aft k W { V with pt:=P }:=⟨h.len,h.par,h.may,h.gone,h.turn,h.org,h.moved,h.realm,h.prog,h.que⟩
theorem zwD{m:Int}(h0:0<=m)(D:m<=7)(h:bits .andNot .i64 2 m=0):bits .and .i64 m 2≠0:=zAO (P:=fun a=>bits .andNot .i64 2 a=0->bits .and .i64 a 2≠0) (by decide +kernel) h0 D h
theorem zor{W:Wl}(k:Nat)(n:Int):Aft k W { W with fs:=zjR W.fs n }:=by
 have e:∀ j,j<W.fs.length->fr (zjR W.fs n) j={ fr W.fs j with g:=(fr W.fs j).g || inF W.fs j n }:=fun j D=>zpf D;refine⟨zdu _ _,fun j D=>?_,fun j D=>?_,fun j D hg=>?_,fun j D=>?_,fun j D _=>(by show (fr (zjR W.fs n) j).o=_;rw[e j D]),fun j D E=>?_,fun _ _ _ _=>rfl,fun _ _ _=>rfl,fun _ _ _=>⟨[],by simp[Go.Proofs.YtcbcpomacdngmaaGreat.que],fun m F=>by cases F⟩⟩
 ·show (fr (zjR W.fs n) j).p=_;rw[e j D]
 ·show (fr (zjR W.fs n) j).m=_;rw[e j D]
 ·show (fr (zjR W.fs n) j).g=true;rw[e j D];dsimp only;rw[hg];rfl
 ·show _<=(fr (zjR W.fs n) j).t;rw[e j D];exact Int.le_refl _
 ·exact absurd (by show (fr (zjR W.fs n) j).t=_;rw[e j D]) E
theorem zrD{W:Wl}(H:zan W){k:Nat}(I:k<W.fs.length){a:Int}(h:zdF W.fs k a 3=0)(g:List Cl) :
  Aft k W { W with qs:=W.qs.set a.toNat (que W a.toNat++[⟨k,g⟩]) }:=by
 obtain⟨_,_,F,h5⟩:=zbR h;obtain⟨q,rfl,E,_⟩:=zdy F;rw[yi];refine⟨rfl,fun _ _=>rfl,fun _ _=>rfl,fun _ _ h=>h,fun _ _=>Int.le_refl _,fun _ _ _=>rfl,fun _ _ h=>absurd rfl h,fun _ _ _ _=>rfl,fun _ _ _=>rfl,fun j J _=>?_⟩;by_cases e:j=q
 ·subst e;refine⟨[⟨k,g⟩],?_,fun m D=>?_⟩
  ·show (W.qs.set j _).getD j []=_;rw[zba _ _ _ _ _ (by rw[H.lq];exact E),yb rfl]
  ·have:m=⟨k,g⟩:=(by simpa using D);subst this;refine⟨rfl,?_⟩;unfold zsa at h5;rw[ya (by decide),ya (by decide),yb rfl] at h5;have D:=H.fs.may I;rw[yi] at h5;exact zwD D.1 D.2 (of_decide_eq_true h5)
 ·refine⟨[],?_,fun m D=>by cases D⟩;show (W.qs.set q _).getD j []=_;rw[zba _ _ _ _ _ (by rw[H.lq];exact E),ya e,List.append_nil];rfl
theorem zvJ{W:Wl}(H:zan W){k:Nat}{n a:Int}(h:zdF W.fs k n 5=0)(U:goE W.fs n a=0) :
  Aft k W { fs:=goF W.fs n a,rs:=W.rs.set n.toNat (zdm (rlm W n.toNat).s.length),ps:=W.ps.set n.toNat [],qs:=W.qs.set n.toNat [],pt:=W.pt }:=by
 obtain⟨_,_,O,h5⟩:=zbR h;obtain⟨q,rfl,F,_⟩:=zdy O;rw[yi]
 have J:q≠k/\inF W.fs q k=true:=by
  unfold zsa at h5;rw[ya (by decide),ya (by decide),ya (by decide)] at h5;simp only[Bool.and_eq_true,Bool.not_eq_true', decide_eq_false_iff_not] at h5;exact⟨fun e=>h5.1 (by rw[e]),h5.2⟩
 have I:∀ j,j<W.fs.length->(fr (goF W.fs q a) j).t=if j=q then (fr W.fs j).t+1 else (fr W.fs j).t:=fun j D=>by
  by_cases e:j=q
  ·subst e;rw[zgm D,yb rfl]
  ·rw[zdH D e,ya e]
 have only:∀ j,j<W.fs.length->(fr (goF W.fs q a) j).t=(fr W.fs j).t->j≠q:=fun j D e M=>by
  rw[I j D,yb M] at e;omega
 refine⟨zgU _ _ _,fun j D=>zAw D,fun j D=>zAp D,fun j D hg=>?_,fun j D=>?_,fun j D e=>(by show (fr (goF W.fs q a) j).o=_;rw[zdH D (only j D e)]),fun j D E=>?_,fun j D e E=>?_,fun j D e=>?_,fun j D e=>?_⟩
 ·show (fr (goF W.fs q a) j).g=true;by_cases e:j=q
  ·subst e;rw[zgm D];exact hg
  ·rw[zdH D e];dsimp only;rw[hg];rfl
 ·show _<=(fr (goF W.fs q a) j).t;rw[I j D]
  split <;> omega
 ·have e:j=q:=by
   refine Classical.byContradiction fun e=>E ?_;show (fr (goF W.fs q a) j).t=_;rw[I j D,ya e]
  subst e;refine⟨J.1,J.2,?_,?_⟩
  ·show (W.ps.set j []).getD j []=[];rw[zba _ _ _ _ _ (by rw[H.lp];exact F),yb rfl]
  ·show (W.rs.set j _).getD j zbL=_;rw[zba _ _ _ _ _ (by rw[H.lr];exact F),yb rfl]
 ·show (W.rs.set q _).getD j zbL=_;rw[zba _ _ _ _ _ (by rw[H.lr];exact F),ya (only j D e)];rfl
 ·show (W.ps.set q _).getD j []=_;rw[zba _ _ _ _ _ (by rw[H.lp];exact F),ya (only j D e)];rfl
 ·refine⟨[],?_,fun m T=>by cases T⟩;show (W.qs.set q _).getD j []=_;rw[zba _ _ _ _ _ (by rw[H.lq];exact F),ya (only j D e),List.append_nil];rfl
theorem zbB{k:Nat}{Es:List Int}{W V:Wl}{o:Int}(E:zao Es=0->Aft k W V):Aft k W (zeN Es W V o).w:=by
 rcases zpW (Es:=Es) (W:=W) (V:=V) (o:=o) with h |⟨h,D⟩
 ·rw[h];exact Aft.refl k W
 ·rw[D];exact E h
theorem zrW{W:Wl}(H:zan W){k:Nat}(D:k<W.fs.length)(x:Ac):Aft k W (zdh W k x).w:=by
 have E:k<W.rs.length:=by rw[H.lr];exact D
 unfold zdh
 repeat' split
 ·exact zbB (fun _=>Aft.refl k W)
 ·exact zbB (fun _=>zor k _)
 ·exact zbB (fun _=>Aft.refl k W)
 ·exact zbB (fun h=>zrD H D (zat h).1 _)
 ·exact zbB (fun h=>zvJ H (zat h).1 (zat (zat h).2).1)
 ·exact zbB (fun h=>(Aft.refl k W).ports _)
 ·exact zbB (fun h=>(Aft.refl k W).ports _)
 ·exact zbB (fun h=>(Aft.refl k W).ports _)
 ·exact zbB (fun h=>(Aft.setR E).ports _)
 ·exact zbB (fun h=>(Aft.refl k W).ports _)
 ·exact zbB (fun h=>Aft.setR E)
theorem zcr{k:Nat}{Es:List Int}{W V:Wl}{o:Int}(E:zao Es=0->(rlm V k).t=(rlm W k).t):(rlm (zeN Es W V o).w k).t=(rlm W k).t:=by
 rcases zpW (Es:=Es) (W:=W) (V:=V) (o:=o) with h |⟨h,D⟩
 ·rw[h]
 ·rw[D];exact E h
theorem zyi{W:Wl}{k:Nat}{n a:Int}(h:zdF W.fs k n 5=0)(R:Rl):(W.rs.set n.toNat R).getD k zbL=rlm W k:=by
 obtain⟨_,_,D,h5⟩:=zbR h;obtain⟨q,rfl,E,_⟩:=zdy D;rw[yi];unfold zsa at h5;rw[ya (by decide),ya (by decide),ya (by decide)] at h5;simp only[Bool.and_eq_true,Bool.not_eq_true', decide_eq_false_iff_not] at h5;exact zgT _ _ _ _ _ (fun e=>h5.1 (by rw[e]))
theorem zle{W:Wl}(H:zan W){k:Nat}(E:k<W.fs.length)(x:Ac):(rlm (zdh W k x).w k).t=(rlm W k).t:=by
 have D:k<W.rs.length:=by rw[H.lr];exact E
 unfold zdh
 repeat' split
 ·exact zcr (fun _=>rfl)
 ·exact zcr (fun _=>rfl)
 ·exact zcr (fun _=>rfl)
 ·exact zcr (fun _=>rfl)
 ·exact zcr (fun h=>by
   show ((W.rs.set _ _).getD k zbL).t=_;rw[zyi (a:=x.a) (zat h).1])
 ·exact zcr (fun _=>rfl)
 ·exact zcr (fun _=>rfl)
 ·exact zcr (fun _=>rfl)
 ·exact zcr (fun _=>by
   show (rlm (setR W k _) k).t=_;rw[zdB D,yb rfl])
 ·exact zcr (fun _=>rfl)
 ·exact zcr (fun h=>by
   rw[zdB D,yb rfl];exact(znT (zat h).1).2.1.tld)
theorem zjM{W:Wl}{k:Nat}(D:k<W.rs.length)(o:Int):rlm (zjK W k o) k={ rlm W k with t:=(rlm W k).t++[o] }:=by
 unfold zjK;rw[zdB D,yb rfl]
theorem zjL{W:Wl}(H:zan W){k:Nat}(D:k<W.fs.length)(o:Int)(E:(rlm W k).t.length+1<=4800):zan (zjK W k o):=by
 obtain⟨r1,r2,r3,F⟩:=zay (H.rs k D);exact H.setR (zeo r1 r2 r3 (by show ((rlm W k).t++[o]).length<=4800;rw[List.length_append];simpa using E)) D
theorem zzk{W:Wl}(H:zan W){k:Nat}(D:k<W.fs.length)(x:Ac)(M:(rlm W k).t.length+1<=4800) :
  zan (doW k W x)/\Aft k W (doW k W x)/\(rlm (doW k W x) k).t=(rlm W k).t++[toldOf (zdh W k x)]:=by
 have H1:=zmn H D x;have J:=zrW H D x;have E:k<(zdh W k x).w.fs.length:=by rw[zrX];exact D
 have I:=zle H D x;have F:k<(zdh W k x).w.rs.length:=by rw[H1.lr];exact E
 refine⟨zjL H1 E _ (by rw[I];exact M),Aft.trans H J (Aft.setR F) D,?_⟩;show (rlm (zjK _ _ _) k).t=_;rw[zjM F];dsimp only;rw[I]
theorem zly{k:Nat}:∀ (D:List Ac) {W:Wl},zan W->k<W.fs.length->(rlm W k).t.length+D.length<=4800 ->
  zan (D.foldl (doW k) W)/\Aft k W (D.foldl (doW k) W)/\(rlm (D.foldl (doW k) W) k).t.length=(rlm W k).t.length+D.length
 | [],W,H,E,_=>⟨H,Aft.refl k W,rfl⟩
 | x :: D,W,H,E,J=>by
  have I:(rlm W k).t.length+1<=4800:=by simp at J;omega
  obtain⟨a,b,c⟩:=zzk H E x I;have F:k<(doW k W x).fs.length:=by rw[b.len];exact E
  have hl:(rlm (doW k W x) k).t.length=(rlm W k).t.length+1:=by rw[c,List.length_append];rfl
  obtain⟨a2,M,c2⟩:=zly D a F (by rw[hl];simp at J;omega);refine⟨a2,Aft.trans H b M E,?_⟩;rw[List.foldl_cons,c2,hl,List.length_cons];omega
theorem zdt(W:Wl)(k:Nat)(s:Bool):(zbb W k s).fs=W.fs:=by unfold zbb;split <;> rfl
theorem ziM(W:Wl)(k:Nat)(s:Bool):(zbb W k s).ps=W.ps:=by unfold zbb;split <;> rfl
theorem zdi{W:Wl}{k:Nat}(D:k<W.rs.length)(s:Bool):rlm (zbb W k s) k={ rlm W k with i:=if s then [] else ((que W k).getD 0 ⟨0,[]⟩).g }:=by
 unfold zbb;split
 ·rw[zdB D,yb rfl]
 ·show rlm (setR W k _) k=_;rw[zdB D,yb rfl]
theorem zmo{W:Wl}{k:Nat}(D:k<W.qs.length)(s:Bool)(j:Nat):que (zbb W k s) j=if j=k/\s=false then (que W k).drop 1 else que W j:=by
 unfold zbb
 cases s with
 | true=>simp;rfl
 | false =>
  simp only[Bool.false_eq_true,if_false,and_true];show (W.qs.set k _).getD j []=_;rw[zba _ _ _ _ _ D];rfl
theorem zex{W:Wl}(H:zan W){k:Nat}(D:k<W.fs.length)(s:Bool)(J:s=false->(que W k).length≠0):zan (zbb W k s):=by
 obtain⟨r1,r2,r3,I⟩:=zay (H.rs k D);obtain⟨M,F⟩:=zbs.1 (H.qs k D);unfold zbb;split
 ·exact H.setR (zeo r1 r2 rfl I) D
 ·rename_i h
  have h0:0<(que W k).length:=by
   have:=J (by simpa using h);omega
  have E:=F ((que W k).getD 0 ⟨0,[]⟩) (by rw[zae _ _ h0];exact List.getElem_mem h0);have H1:=H.setR (R:={ rlm W k with i:=((que W k).getD 0 ⟨0,[]⟩).g }) (zeo r1 r2 E.2 I) D;exact zan.queue (q:=(que W k).drop 1) H1 D (zbs.2 ⟨by rw[List.length_drop];omega,fun m E=>F m (List.mem_of_mem_drop E)⟩)
theorem zdn{W:Wl}{k:Int}{s:Bool}(h:zbK W k s=0):zan W/\∃ q:Nat,k=q/\q<W.fs.length/\(fr W.fs q).g=false/\bits .and .i64 (fr W.fs q).m 1≠0/\(rlm W q).t.length<=4760/\(s=false->(que W q).length≠0):=by
 unfold zbK at h;obtain⟨h1,h⟩:=zat h;obtain⟨I,h⟩:=zat h;obtain⟨D,h⟩:=zat h;obtain⟨E,h⟩:=zat h;obtain⟨h5,_⟩:=zat h;obtain⟨q,rfl,J,hg⟩:=zdy I;rw[yi] at D E h5;refine⟨zcM.1 h1,q,rfl,J,hg,fun e=>?_,?_,fun e F=>?_⟩
 ·unfold ziu at D;rw[yb e] at D;omega
 ·by_cases e:4760<(rlm W q).t.length
  ·rw[yb e] at E;omega
  ·omega
 ·rw[yb ⟨e,F⟩] at h5;omega
theorem zlN{W:Wl}{q:Nat}{s:Bool}(h:zbK W q s=0) :
  zan (zaX W q s)/\Aft q (zbb W q s) (zaX W q s)/\(rlm (zaX W q s) q).t.length=(rlm W q).t.length+(prg W q).length/\(zaX W q s).fs.length=W.fs.length:=by
 obtain⟨H,D,e,E,hg,U,ht,F⟩:=zdn h;have:D=q:=by omega
 subst this;have T:D<W.rs.length:=by rw[H.lr];exact E
 have J:=zex H E s F;have O:D<(zbb W D s).fs.length:=by rw[zdt];exact E
 have I:(rlm (zbb W D s) D).t.length=(rlm W D).t.length:=by rw[zdi T]
 have Z:=H.ps D E
 have M:zaX W D s=(prg W D).foldl (doW D) (zbb W D s):=by
  unfold zaX;rw[yb h,yi]
 obtain⟨a,b,c⟩:=zly (prg W D) J O (by rw[I];omega);rw[M];exact⟨a,b,by rw[c,I],by rw[b.len,zdt]⟩
theorem zjA{W:Wl}(H:zan W)(p:Int × Bool):zan (zjz W p)/\(zjz W p).fs.length=W.fs.length:=by
 unfold zjz;by_cases h:zbK W p.1 p.2=0
 ·rw[yb h];obtain⟨_,q,e,_⟩:=zdn h;rw[e] at h |-;exact⟨(zlN h).1,(zlN h).2.2.2⟩
 ·rw[ya h];exact⟨H,rfl⟩
theorem zkW:∀ (l:List (Int × Bool)) {W:Wl},zan W->zan (l.foldl zjz W)/\(l.foldl zjz W).fs.length=W.fs.length
 | [],W,H=>⟨H,rfl⟩
 | p :: l,W,H=>by
  obtain⟨a,b⟩:=zjA H p;obtain⟨c,d⟩:=zkW l a;exact⟨c,d.trans b⟩
theorem zpI:∀ (l:List (Int × Bool)) (W:Wl),(zrq W l).length=l.length
 | [],_=>rfl
 | p :: l,W=>by rw[zrq,List.length_cons,List.length_cons,zpI l]
end Go.Proofs.YtcbcpomacdngmaaGreat
