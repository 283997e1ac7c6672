/-
  x
-/
import Derived.Test.YtcbcpomacdngmaaGreatS5
namespace Go.Proofs.YtcbcpomacdngmaaGreat
set_option maxRecDepth 100000
set_option maxHeartbeats 4000000
set_option linter.unusedVariables false
open Go.RowKit
theorem zcH{X:Nat->Prop}{a:Addr}(w:World)(D:X a.block)(v:Value):Off X w (w.setCell a v) :=
 ⟨rfl,rfl,rfl,by simp,fun k _ E=>yv w a v k (fun e=>E (by rw[e];exact D))⟩
theorem Off.frozen{X:Nat->Prop}{w w' : World}(h:Off X w w'){p:Addr}(D:p.block<w.heap.size)(E:¬ X p.block):w'.frozen? p=w.frozen? p:=by
 unfold World.frozen?;rw[h.block _ D E]
theorem zre(g c N D:Nat)(w:World)(hch:D<N)(I:w.cell? ⟨g,D*8+4,none⟩=some (.int .i64 (-1))) :
  yM 186 #[.slice (some ⟨g,0,none⟩) N c,.int .i64 D] w fun e w' => e=.returned (.tuple #[])/\Below w.heap.size w w' := by
 have E:(D:Int)<(N:Int):=by omega
 have F:=yd _ _ I
 go_enter Tryz.func186,Tryz.ntmps186
 go_wp2
 exact yw (v:=.tuple #[]) (by simp[results,Tryz.results186,go_sem]) rfl ⟨rfl,(yk _ _).alloc (yj _) _⟩
theorem zsU(B g c:Nat)(S:List Nd)(kb kc:Nat->Nat)(pa D at' : Nat)(ha:Option Addr)(hc:Nat)(hs:List (Int × Int))(w:World)(hO:Own w B g S kb kc S.length)(hpa:pa<S.length)(hch:D<S.length)(d6:pa≠D)(b6:hs.length<=1)(hH:zas w ha hs)(b1:atS (nd S pa).ks hs=at')(a5:at' <=(nd S pa).ks.length) :
  yM 207 #[.slice (some ⟨g,0,none⟩) S.length c,.int .i64 pa,.int .i64 D,.slice ha hs.length hc] w fun e w' => e=.returned (.tuple #[])/\Off (fun b=>b=g\/b=kb pa) w w' /\ ∀ w3:World,(∀ b,g<=b->w3.heap[b]?=w'.heap[b]?)->zai w3 (some ⟨g,0,none⟩) (zbm S pa D at'):=by
 have AF:Hid (∀ (W I:World) (J O:Nat) (G' : Nat->Value),Below w.heap.size w W->(J=kb pa\/W.heap.size<=J)->Off (fun b=>b=kb pa) W I->I.rowIs J 3 O G' ->(ins (nd S pa).ks at' D).length<=O->(∀ j,j<(ins (nd S pa).ks at' D).length->G' j=.int .i64 ((ins (nd S pa).ks at' D).getD j 0))->∀ w3:World,(∀ b,g<=b->w3.heap[b]?=((I.setCell ⟨g,pa*8+5,none⟩ (.slice (some ⟨J,0,none⟩) (ins (nd S pa).ks at' D).length O)).setCell ⟨g,D*8+4,none⟩ (.int .i64 pa)).heap[b]?)->zai w3 (some ⟨g,0,none⟩) (zbm S pa D at')):=fun W I J O G' h1 h2 h3 h4 h5 h6=>zof hO h1 hpa hch d6 a5 h2 h3 h4 h5 h6;have HH:Hid (zas w ha hs):=hH;obtain⟨hB,F,hF,a6,hg,hd⟩:=hO;obtain⟨e0,e1,e2,e3,e4,e5,e6,e7,e8,a9,G,hG,e9⟩:=a6 pa hpa;obtain⟨f0,f1,f2,f3,f4,f5,f6,f7,f8,c7,G2,c8,f9⟩:=a6 D hch;have T:=hF.lt;have c9:=hF.frozen;have q5:w.cell? ⟨g,pa*8+5,none⟩=some (.slice (some ⟨kb pa,0,none⟩) (nd S pa).ks.length (kc pa)):=by rw[hF.cell (by omega),e5]
 have q4:w.cell? ⟨g,D*8+4,none⟩=some (.int .i64 (nd S D).p):=by rw[hF.cell (by omega),f4]
 have d4:=hG.lt;have g8:=hg pa hpa;have dx:=fun(v:Int) (W:World) (hW:Below w.heap.size w W)=>zts (some ⟨kb pa,0,none⟩) (kc pa) (nd S pa).ks v W (by omega) ((zbN hG e8 e9).below hW);have DX:Hid _:=dx;have di:=fun(W:World) (hW:Below w.heap.size w W) (vb:Nat) (d7:vb≠kb pa) (hv:W.heap[vb]?=some (.cells #[.int .i64 (D:Int)] 3 (0,0)))=>zov (kb pa) (nd S pa).ks.length (kc pa) vb at' (nd S pa).ks D W rfl a5 e8 a9 G (hG.of_block (hW.block _ hG.lt)) e9 d7 hv;have DI:Hid _:=di;have g4:(pa:Int)<(S.length:Int):=by omega
 have d9:(D:Int)<(S.length:Int):=by omega
 have H1:Hid (hs.length<=1):=b6;have b7:Hid _:=b1;have g5:(nd S pa).ks.length<=1000:=by omega
 clear e0 e1 e2 e3 e4 e5 e6 e7 e8 a9 hG e9 f0 f1 f2 f3 f4 f5 f6 f7 f8 c7 c8 f9 hF a6 hd hg dx di hH b1;generalize hL:(nd S pa).ks.length=L at *;have HL:Hid _:=hL;clear hL;generalize hn:S.length=n at *;generalize hm:hs.length=m at *;have HM:Hid _:=hm;clear hn hm;have h7:m<=1:=b6
 go_enter Tryz.func207,Tryz.ntmps207
 go_wp2
 go_loopg [9,21] m (fun g1 s9 s21 wr=>∃ (k:Nat) (x:Int),k<=m/\m-k<=g1/\s21=.int .i64 k/\s9=.int .i64 x/\Below w.heap.size w wr/\Hid (x=atS (nd S pa).ks (hs.take k)))
 case atStart=>exact⟨0,L,by omega,by omega,rfl,rfl,yk _ _,(show _=_ by rw[<- HL.out];rfl)⟩
 case round =>
  obtain⟨k,x,hk,g7,rfl,rfl,E,A⟩:=hrel;by_cases d5:k<m
  ·have b2:k=0:=(by omega);obtain⟨b,o,rfl,c0,c1⟩:=(HH.out.below E) k (by rw[HM.out];exact d5);have g0:(k:Int)<(m:Int):=(by omega);have g6:=yd _ _ c0
   have TK:Hid (atS (nd S pa).ks (hs.take (k+1))=idx (nd S pa).ks (hs.getD k (0,0)).1):=by
    subst b2;show _=_
    obtain⟨h0,hr,rfl⟩:∃ h0 hr,hs=h0 :: hr:=by
     cases hs with
     | nil=>have:=HM.out;simp at this;omega
     | cons a r=>exact⟨a,r,rfl⟩
    rfl
   generalize (hs.getD k (0,0)).1=pv at *;generalize (hs.getD k (0,0)).2=uv at *;have d1:=fun o1=>DX.out pv (wr.alloc o1) (E.alloc E.size o1);generalize idx (nd S pa).ks pv=ix at *;clear b2
   go_wp2_with (go_at_call 217;refine(d1 _).mono ?_;rintro e I ⟨rfl,rfl⟩)
   go_roundg (m-(k+1))
   case measure=>omega
   case rel=>exact⟨k+1,ix,by omega,by omega,by go_num,rfl,E.alloc E.size _,TK.out.symm⟩
  ·have b5:k=m:=by omega
   have d8:x=(at' : Int):=by
    rw[A.out,b5,<- HM.out,List.take_length];exact b7.out
   subst b5;subst d8;have r5:=(E.cell (by exact T)).trans q5;have r4:=(E.cell (by exact T)).trans q4;have rf:=fun o=>(E.frozen (by exact T)).trans (c9 o);have g9:kb pa<wr.heap.size:=yz d4 E.size;have HV:Hid ((wr.alloc (.cells #[.int .i64 (D:Int)] 3)).heap[wr.heap.size]?=some (.cells #[.int .i64 (D:Int)] 3 (0,0))):=yL wr _;clear A
   have b8:Hid (∀ I,Off (fun b=>b=kb pa) (wr.alloc (.cells #[.int .i64 (D:Int)] 3)) I->I.cell? ⟨g,pa*8+5,none⟩=some (.slice (some ⟨kb pa,0,none⟩) L (kc pa))/\(∀ v,(I.setCell ⟨g,pa*8+5,none⟩ v).cell? ⟨g,D*8+4,none⟩=some (.int .i64 (nd S D).p))/\(∀ o,I.frozen? ⟨g,o,none⟩=false)):=fun I h2=>by
    have a8:g<wr.heap.size:=yz T E.size;have a7:=(yk _ wr).alloc (yj _) (.cells #[.int .i64 (D:Int)] 3);refine⟨?_,fun v=>?_,fun o=>?_⟩
    ·exact((h2.cell (by simp;omega) (by simp;omega)).trans (a7.cell (by exact a8))).trans r5
    ·rw[World.cell?_setCell_other _ _ _ _ (by simp)];exact((h2.cell (by simp;omega) (by simp;omega)).trans (a7.cell (by exact a8))).trans r4
    ·exact((h2.frozen (by simp;omega) (by simp;omega)).trans (a7.frozen (by exact a8))).trans (rf o)
   go_wp2_with (go_at_call 218;refine(DI.out _ (E.alloc E.size _) wr.heap.size (by omega) HV.out).mono ?_;rintro e I ⟨J,O,rfl,b4,b3,M,G', b0,Z⟩;obtain⟨s5,s4,sf⟩:=b8.out I M;have b9:Hid _:=b0;have c6:Hid _:=Z;have U:Hid _:=M;clear b0 Z M)
   refine bodyPost_end (v:=.tuple #[]) (by simp[results,Tryz.results207,go_sem]) rfl ⟨rfl,?_,?_⟩
   ·have h1:Off (fun b=>b=g\/b=kb pa) w I:=(Off.of_below (E.alloc E.size _)).trans (U.out.mono (fun k _ h=>Or.inr h));exact(h1.trans (zcH _ (Or.inl rfl) _)).trans (zcH _ (Or.inl rfl) _)
   ·exact AF.out _ _ _ _ _ (E.alloc E.size _) b3 U.out b9.out b4 c6.out
def zpk(X:Nat->Prop)(K:Nat)(D:Array Value)(p:Int->Bool)(w:World):Prop :=
 ∀ (x:Int) (E:World),Off X w E->yM K (#[.int .i64 x] ++ D) E fun e F=>e=.returned (.bool (p x))/\Below E.heap.size E F
def flt(p:Int->Bool)(ks:List Int):List Int:=ks.filter fun x=>!p x
theorem zgQ(p:Int->Bool)(ks:List Int)(j:Nat)(h:j<ks.length):flt p (ks.take (j+1))=flt p (ks.take j)++(if p (ks.getD j 0) then [] else [ks.getD j 0]):=by
 unfold flt;rw[List.take_succ_eq_append_getElem h,List.filter_append,zae ks 0 h]
 cases hp:p ks[j] <;> simp[hp]
theorem zlA(p:Int->Bool)(ks:List Int)(h:∀ i,i<ks.length->p (ks.getD i 0)=false):flt p ks=ks:=by
 unfold flt;rw[List.filter_eq_self];intro x D;obtain⟨i,hi,rfl⟩:=List.getElem_of_mem D;have:=h i hi;rw[zae ks 0 hi] at this;simp[this]
theorem zsZ(p:Int->Bool)(ks:List Int):(flt p ks).length<=ks.length:=List.length_filter_le _ _
def znI(w:World)(kb cap:Nat)(l:List Int)(e:Ending)(w' : World):Prop :=
 e=.returned (.slice (some ⟨kb,0,none⟩) l.length cap)/\Off (fun b=>b=kb) w w' /\ ∃ G,w'.rowIs kb 3 cap G/\∀ j,j<l.length->G j=.int .i64 (l.getD j 0)
theorem zke(K:Nat)(I:Array Value)(p:Int->Bool)(kb L cap:Nat)(ks:List Int)(G:Nat->Value)(w:World)(hL:ks.length=L)(hc:L<=cap)(d5:cap<=1000000000)(hG:w.rowIs kb 3 cap G)(a7:∀ j,j<L->G j=.int .i64 (ks.getD j 0))
  (eg:∀ args w,(callFunc K args).run Tryz.prog w=.ok (.enter K args) w) (hT:zpk (fun b=>b=kb) K I p w) :
  yM 197 #[.slice (some ⟨kb,0,none⟩) L cap,.func (.func K) #[] I] w (znI w kb cap (flt p ks)):=by
 have di:=zgV K I p (some ⟨kb,0,none⟩) cap ks w (by omega) (zbN hG (by omega) (by rw[hL];exact a7)) eg (fun x w1 hb=>hT x w1 (Off.of_below hb));rw[hL] at di;have HG:Hid (w.rowIs kb 3 cap G):=hG;have a6:Hid _:=a7;have HT:Hid (zpk (fun b=>b=kb) K I p w):=hT;have T:Hid _:=hL;have b2:=hG.lt;clear hG a7 hT hL
 go_enter Tryz.func197,Tryz.ntmps197
 go_wp2_with fail
 refine di.mono ?_;rintro e w1 ⟨r,rfl,M,hr⟩;clear di;rcases hr with ⟨rfl,a5⟩ |⟨k,hk,rfl,hp,hf⟩
 ·have a9:=zlA p ks (by rw[T.out];exact a5);have E:Hid _:=a9;clear a5 a9
  go_wp2
  go_ret;refine⟨by rw[E.out,T.out];rfl,Off.of_below M,G,HG.out.of_block (M.block kb b2),fun j hj=>?_⟩;rw[E.out] at hj |-;exact a6.out j (by rw[<- T.out];exact hj)
 ·have d4:((k:Int) == -1)=false:=beq_eq_false_iff_ne.2 (by omega)
  have F0:Hid (flt p (ks.take (k+1))=ks.take k):=by
   show _=_;rw[zgQ p ks k (by rw[T.out];exact hk),hp,yb rfl,List.append_nil];refine zlA p _ (fun i hi=>?_);rw[List.length_take] at hi;have b3:=T.out;have h1:=hf i (by omega);rw[zae ks 0 (by omega)] at h1;rw[zae (ks.take k) 0 (by rw[List.length_take];omega),List.getElem_take];exact h1
  have a8:Hid (w1.rowIs kb 3 cap G):=HG.out.of_block (M.block kb b2)
  have FI:Hid (∀ t,t<k->G t=.int .i64 ((flt p (ks.take (k+1))).getD t 0)):=fun t O=>by
   have b3:=T.out;rw[F0.out,a6.out t (by omega),zae ks 0 (by omega),zae (ks.take k) 0 (by rw[List.length_take];omega),List.getElem_take]
  have FL:Hid ((flt p (ks.take (k+1))).length=k):=by
   have b3:=T.out;show _=_;rw[F0.out,List.length_take];omega
  have O1:Hid (Off (fun b=>b=kb) w w1):=Off.of_below M;clear hp hf M
  go_wp2
  go_loopg [5,6] L (fun g1 s5 s6 wr=>∃ (i j:Nat) (G2:Nat->Value),i<j/\j<=L/\L-j<=g1/\s5=.int .i64 i/\s6=.int .i64 j/\Hid (Off (fun b=>b=kb) w wr)/\Hid (wr.rowIs kb 3 cap G2)/\Hid ((flt p (ks.take j)).length=i)/\Hid (∀ t,t<i->G2 t=.int .i64 ((flt p (ks.take j)).getD t 0))/\Hid (∀ t,j<=t->t<L->G2 t=.int .i64 (ks.getD t 0)))
  case atStart=>exact⟨k,k+1,G,by omega,by omega,by omega,rfl,by go_num,O1,a8,FL,FI,(show Hid _ from fun t _ O=>a6.out t O)⟩
  case round =>
   clear a8 FI FL O1;obtain⟨i,j,G2,c8,c9,b9,rfl,rfl,O2,R2,L2,I2,J2⟩:=hrel;have U:kb<wr.heap.size:=R2.out.lt;have b0:=R2.out.frozen;by_cases b4:j<L
   ·have b6:(j:Int)<(L:Int):=(by omega);have cj:=R2.out.cell (i:=j) (by omega);rw[J2.out j (yj _) b4] at cj;have ci:=R2.out.cell (i:=i) (by omega);have D:=HT.out (ks.getD j 0) wr O2.out;have Z:=zgQ p ks j (by rw[T.out];exact b4);generalize hy:ks.getD j 0=y at *;have HY:Hid _:=hy;clear hy
    cases hq:p y with
    | true =>
     rw[hq] at D Z;rw[yb rfl,List.append_nil] at Z;have J:Hid _:=Z;clear Z
     go_wp2_with (go_at_fn K;refine D.mono ?_;rintro e w2 ⟨rfl,F⟩)
     go_roundg (L-(j+1))
     case measure=>omega
     case rel=>exact⟨i,j+1,G2,by omega,by omega,by omega,rfl,by go_num,O2.out.trans (Off.of_below F),R2.out.of_block (F.block kb U),(show _=_ by rw[J.out];exact L2.out),(show Hid _ from fun t O=>by rw[J.out];exact I2.out t O),(show Hid _ from fun t h1 h2=>J2.out t (by omega) h2)⟩
    | false =>
     rw[hq] at D Z;rw[ya (by simp)] at Z;have J:Hid _:=Z;clear Z
     go_wp2_with (go_at_fn K;refine D.mono ?_;rintro e w2 ⟨rfl,F⟩;have b7:=(F.cell (by exact U)).trans ci;have b5:=fun o=>(F.frozen (by exact U)).trans (b0 o))
     go_roundg (L-(j+1))
     case measure=>omega
     case rel =>
      refine⟨i+1,j+1,_,by omega,by omega,by omega,by go_num,by go_num,(O2.out.trans (Off.of_below F)).trans (zcH (X:=fun b=>b=kb) _ rfl _),(R2.out.of_block (F.block kb U)).set i (.int .i64 y),(show _=_ by rw[J.out,List.length_append,L2.out];rfl),(show Hid _ from fun t O=>?_),(show Hid _ from fun t h1 h2=>?_)⟩
      ·rw[J.out];by_cases e:t=i
       ·subst e;rw[yb rfl];simp[List.getD,L2.out]
       ·rw[ya e,I2.out t (by omega)];simp[List.getD,List.getElem?_append,L2.out,show t<i by omega]
      ·rw[ya (by omega)];exact J2.out t (by omega) h2
   ·have b1:j=L:=(by omega);subst b1;have c7:(i:Int)<=(cap:Int):=(by omega);have c6:(i:Int)<=(j:Int):=by omega
    have EF:Hid (flt p (ks.take j)=flt p ks):=by
     show _=_;rw[<- T.out,List.take_length]
    have b8:∀ ty,(Builtin.clear_ #[48] ty #[.slice (some ⟨kb,i,none⟩) (j-i) (cap-i)]).run Tryz.prog wr=.ok (.tuple #[]) (wr.setCells kb i (List.replicate (j-i) (.int .i64 0))):=fun ty=>Lib.run_clear_slice wr 48 3 ty (.int .i64 0) Tryz.underlying48 Tryz.zeroValue3 rfl rfl kb i (j-i) (cap-i) (by omega) (fun t O=>by rw[R2.out.cell (by omega)];rfl) (fun t O=>b0 _)
    go_wp2
    go_ret;refine⟨?_,O2.out.trans (zbC (X:=fun b=>b=kb) rfl _ _ _),_,zbD _ _ _ _ R2.out,fun t O=>?_⟩
    ·rw[<- EF.out,L2.out];rfl
    ·rw[<- EF.out,L2.out] at O;rw[ya (by omega),I2.out t O,EF.out]
theorem zng{E:World}{p:Addr}{v:Value}(h:E.cell? p=some v)(D:Obj):(E.alloc D).cell? p=some v :=
 (((yk _ _).alloc (yj _) D).cell (yd _ _ h)).trans h
theorem zkm(x c:Int)(b:Nat)(w:World)(hc:w.cell? ⟨b,0,none⟩=some (.int .i64 c)) :
  yM 198 #[.int .i64 x,.pointer (some ⟨b,0,none⟩)] w fun e w' => e=.returned (.bool (decide (x=c)))/\w' = w:=by
 by_cases h:x=c
 ·subst h
  go_enter Tryz.func198,Tryz.ntmps198
  go_wp2
  go_ret;exact⟨by simp,rfl⟩
 ·have hd:decide (x=c)=false:=yF h;have D:(x == c)=false:=beq_eq_false_iff_ne.2 h;rw[hd]
  go_enter Tryz.func198,Tryz.ntmps198
  go_wp2
  go_ret;refine⟨?_,rfl⟩
  first
   | rfl
   | simp[D]
def zgu(S:List Nd)(pa D:Nat)(j:Nat):Nd :=
 if j=D then ⟨(nd S D).u,(nd S D).n,(nd S D).t,(nd S D).m,-1,(nd S D).ks,(nd S D).h,(nd S D).c⟩
 else if j=pa then ⟨(nd S pa).u,(nd S pa).n,(nd S pa).t,(nd S pa).m,(nd S pa).p,flt (fun x=>decide (x=(D:Int))) (nd S pa).ks,(nd S pa).h,(nd S pa).c⟩
 else nd S j
def zbB(S:List Nd)(pa D:Nat):List Nd:=(List.range S.length).map (zgu S pa D)
theorem zbG(S:List Nd)(pa D:Nat):(zbB S pa D).length=S.length:=by simp[zbB]
theorem zft(S:List Nd)(pa D j:Nat)(E:j<S.length):nd (zbB S pa D) j=zgu S pa D j:=by
 rw[zbf (by rw[zbG];exact E)];simp[zbB]
theorem zoC{w U:World}{B g:Nat}{S:List Nd}{kb kc:Nat->Nat}(hO:Own w B g S kb kc S.length){W:World}(hb:Below w.heap.size w W){pa D:Nat}(hpa:pa<S.length)(hch:D<S.length)(a9:pa≠D)
  (O:Off (fun b=>b=kb pa) W U) {G:Nat->Value} (hG:U.rowIs (kb pa) 3 (kc pa) G) (a6:∀ j,j<(flt (fun x=>decide (x=(D:Int))) (nd S pa).ks).length->G j=.int .i64 ((flt (fun x=>decide (x=(D:Int))) (nd S pa).ks).getD j 0)) :
  Own ((U.setCell ⟨g,pa*8+5,none⟩ (.slice (some ⟨kb pa,0,none⟩) (flt (fun x=>decide (x=(D:Int))) (nd S pa).ks).length (kc pa))).setCell ⟨g,D*8+4,none⟩ (.int .i64 (-1))) B g (zbB S pa D) kb kc (zbB S pa D).length:=by
 obtain⟨hB,F,hF,hN,hg,hd⟩:=hO;have a8:=hF.lt;have hW:∀ b,b<w.heap.size->b≠kb pa->U.heap[b]?=w.heap[b]?:=fun b h1 M=>(O.block b (yz h1 hb.size) M).trans (hb.block b h1);have a7:g≠kb pa:=by have:=hg pa hpa;omega
 have a5:=(((hF.of_block (hW g a8 a7)).set (pa*8+5) (.slice (some ⟨kb pa,0,none⟩) (flt (fun x=>decide (x=(D:Int))) (nd S pa).ks).length (kc pa))).set (D*8+4) (.int .i64 (-1)));rw[zbG];refine⟨hB,_,by rw[zbG];exact a5,fun j I=>?_,hg,hd⟩;rw[zft S pa D j I];obtain⟨e0,e1,e2,e3,e4,e5,e6,e7,Z,J,G0,E,e9⟩:=hN j I;unfold zgu;by_cases h1:j=D
 ·subst h1;rw[yb rfl];have T:=((E.of_block (hW (kb j) E.lt (fun e=>a9 (hd pa hpa j I e.symm)))).setOther (a:=⟨g,pa*8+5,none⟩) (by have:=hg j I;simp;omega) (.slice (some ⟨kb pa,0,none⟩) (flt (fun x=>decide (x=(j:Int))) (nd S pa).ks).length (kc pa))).setOther (a:=⟨g,j*8+4,none⟩) (by have:=hg j I;simp;omega) (.int .i64 (-1));refine⟨?_,?_,?_,?_,?_,?_,?_,?_,Z,J,G0,T,e9⟩
  all_goals dsimp only
  ·rw[ya (by omega),ya (by omega),e0]
  ·rw[ya (by omega),ya (by omega),e1]
  ·rw[ya (by omega),ya (by omega),e2]
  ·rw[ya (by omega),ya (by omega),e3]
  ·rw[yb rfl]
  ·rw[ya (by omega),ya (by omega),e5]
  ·rw[ya (by omega),ya (by omega),e6]
  ·rw[ya (by omega),ya (by omega),e7]
 ·rw[ya h1];by_cases M:j=pa
  ·subst M;rw[yb rfl];have T:=(hG.setOther (a:=⟨g,j*8+5,none⟩) (by simp;omega) (.slice (some ⟨kb j,0,none⟩) (flt (fun x=>decide (x=(D:Int))) (nd S j).ks).length (kc j))).setOther (a:=⟨g,D*8+4,none⟩) (by simp;omega) (.int .i64 (-1));refine⟨?_,?_,?_,?_,?_,?_,?_,?_,yH (zsZ _ _) Z,J,G,T,a6⟩
   all_goals dsimp only
   ·rw[ya (by omega),ya (by omega),e0]
   ·rw[ya (by omega),ya (by omega),e1]
   ·rw[ya (by omega),ya (by omega),e2]
   ·rw[ya (by omega),ya (by omega),e3]
   ·rw[ya (by omega),ya (by omega),e4]
   ·rw[ya (by omega),yb rfl]
   ·rw[ya (by omega),ya (by omega),e6]
   ·rw[ya (by omega),ya (by omega),e7]
  ·rw[ya M];have T:=((E.of_block (hW (kb j) E.lt (fun e=>M (hd j I pa hpa e)))).setOther (a:=⟨g,pa*8+5,none⟩) (by have:=hg j I;simp;omega) (.slice (some ⟨kb pa,0,none⟩) (flt (fun x=>decide (x=(D:Int))) (nd S pa).ks).length (kc pa))).setOther (a:=⟨g,D*8+4,none⟩) (by have:=hg j I;simp;omega) (.int .i64 (-1));refine⟨?_,?_,?_,?_,?_,?_,?_,?_,Z,J,G0,T,e9⟩
   all_goals
    dsimp only;rw[ya (by omega),ya (by omega)];assumption
theorem zmY(B g c:Nat)(S:List Nd)(kb kc:Nat->Nat)(pa D:Nat)(w:World)(hO:Own w B g S kb kc S.length)(hpa:pa<S.length)(hch:D<S.length)(b3:pa≠D)(hp:(nd S D).p=pa) :
  yM 186 #[.slice (some ⟨g,0,none⟩) S.length c,.int .i64 D] w fun e w' => e=.returned (.tuple #[])/\Off (fun b=>b=g\/b=kb pa) w w' /\ Own w' B g (zbB S pa D) kb kc (zbB S pa D).length:=by
 have AF:Hid (∀ (W I:World) (G' : Nat->Value),Below w.heap.size w W->Off (fun b=>b=kb pa) W I->I.rowIs (kb pa) 3 (kc pa) G' ->(∀ j,j<(flt (fun x=>decide (x=(D:Int))) (nd S pa).ks).length->G' j=.int .i64 ((flt (fun x=>decide (x=(D:Int))) (nd S pa).ks).getD j 0))->Own ((I.setCell ⟨g,pa*8+5,none⟩ (.slice (some ⟨kb pa,0,none⟩) (flt (fun x=>decide (x=(D:Int))) (nd S pa).ks).length (kc pa))).setCell ⟨g,D*8+4,none⟩ (.int .i64 (-1))) B g (zbB S pa D) kb kc (zbB S pa D).length):=fun W I G' h1 h2 h3 h4=>zoC hO h1 hpa hch b3 h2 h3 h4;obtain⟨hB,F,hF,T,hg,hd⟩:=hO;obtain⟨e0,e1,e2,e3,e4,e5,e6,e7,e8,a9,G,hG,e9⟩:=T pa hpa;obtain⟨f0,f1,f2,f3,f4,f5,f6,f7,f8,b0,G2,b1,f9⟩:=T D hch;have Z:=hF.lt;have b2:=hF.frozen;have q5:w.cell? ⟨g,pa*8+5,none⟩=some (.slice (some ⟨kb pa,0,none⟩) (nd S pa).ks.length (kc pa)):=by rw[hF.cell (by omega),e5]
 have q4:w.cell? ⟨g,D*8+4,none⟩=some (.int .i64 (pa:Int)):=by rw[hF.cell (by omega),f4,hp]
 have b8:=hG.lt;have b7:=hg pa hpa
 have dd:Hid (∀ (W:World),Below w.heap.size w W->W.cell? ⟨w.heap.size,0,none⟩=some (.int .i64 (D:Int))->yM 197 #[.slice (some ⟨kb pa,0,none⟩) (nd S pa).ks.length (kc pa),.func (.func 198) #[] #[.pointer (some ⟨w.heap.size,0,none⟩)]] W (znI W (kb pa) (kc pa) (flt (fun x=>decide (x=(D:Int))) (nd S pa).ks))):=fun W hW J =>
  zke 198 #[.pointer (some ⟨w.heap.size,0,none⟩)] (fun x=>decide (x=(D:Int))) (kb pa) (nd S pa).ks.length (kc pa) (nd S pa).ks G W rfl e8 (by omega) (hG.of_block (hW.block _ hG.lt)) e9 (yK Tryz.func198 (by kernel_rfl) rfl)
   (fun x w1 E=>(zkm x (D:Int) w.heap.size w1 ((E.cell (yd _ _ J) (by show ¬ (w.heap.size=kb pa);omega)).trans J)).mono (fun e w3 h=>⟨h.1,by rw[h.2];exact yk _ _⟩))
 have b6:(pa:Int)<(S.length:Int):=by omega
 have b5:(D:Int)<(S.length:Int):=by omega
 have b9:((pa:Int) == -1)=false:=beq_eq_false_iff_ne.2 (by omega);clear e0 e1 e2 e3 e4 e5 e6 e7 e8 a9 hG e9 f0 f1 f2 f3 f4 f5 f6 f7 f8 b0 b1 f9 hF T hd hg hp;generalize (nd S pa).ks.length=L at *;generalize S.length=n at *;have Q5:=zng q5;have Q4:=zng q4
 have a6:Hid (∀ I o1,Off (fun b=>b=kb pa) (w.alloc o1) I->I.cell? ⟨g,pa*8+5,none⟩=some (.slice (some ⟨kb pa,0,none⟩) L (kc pa))/\(∀ v,(I.setCell ⟨g,pa*8+5,none⟩ v).cell? ⟨g,D*8+4,none⟩=some (.int .i64 (pa:Int)))/\(∀ o,I.frozen? ⟨g,o,none⟩=false)):=fun I o1 h2=>by
  have U:=(yk _ w).alloc (yj _) o1;refine⟨?_,fun v=>?_,fun o=>?_⟩
  ·exact((h2.cell (by simp;omega) (by simp;omega)).trans (U.cell (by exact Z))).trans q5
  ·rw[World.cell?_setCell_other _ _ _ _ (by simp)];exact((h2.cell (by simp;omega) (by simp;omega)).trans (U.cell (by exact Z))).trans q4
  ·exact((h2.frozen (by simp;omega) (by simp;omega)).trans (U.frozen (by exact Z))).trans (b2 o)
 go_enter Tryz.func186,Tryz.ntmps186
 go_wp2_with (go_at_call 197;refine(dd.out _ ((yk _ _).alloc (yj _) _) (by go_simp)).mono ?_;rintro e I ⟨rfl,E,G', a5,O⟩;obtain⟨s5,s4,sf⟩:=a6.out I _ E;have b4:I.cell? ⟨w.heap.size,0,none⟩=some (.int .i64 (D:Int)):=(E.cell (by simp) (by show ¬ (w.heap.size=kb pa);omega)).trans (by go_simp);have a7:Hid _:=a5;have a8:Hid _:=O;have M:Hid _:=E;clear a5 O E)
 refine bodyPost_end (v:=.tuple #[]) (by simp[results,Tryz.results186,go_sem]) rfl ⟨rfl,?_,AF.out _ _ _ ((yk _ _).alloc (yj _) _) M.out a7.out a8.out⟩;have h1:Off (fun b=>b=g\/b=kb pa) w I:=(Off.of_below ((yk _ _).alloc (yj _) _)).trans (M.out.mono (fun k _ h=>Or.inr h));exact(h1.trans (zcH _ (Or.inl rfl) _)).trans (zcH _ (Or.inl rfl) _)
theorem zii(K:Nat)(F:Array Value)(p:Int->Bool)(a:Option Addr)(c:Nat)(ks:List Int)(w:World)(U:ks.length<=9223372036854775807)(E:zaj w a ks)
  (eg:∀ args w,(callFunc K args).run Tryz.prog w=.ok (.enter K args) w) (O:∀ x ∈ ks,∀ M,Below w.heap.size w M->yM K (#[.int .i64 x] ++ F) M fun e w2=>e=.returned (.bool (p x))/\Below M.heap.size M w2) :
  yM 153 #[.slice a ks.length c,.func (.func K) #[] F] w fun e w' => ∃ r:Int,e=.returned (.int .i64 r)/\Below w.heap.size w w' /\
   ((r = -1/\∀ i,i<ks.length->p (ks.getD i 0)=false)\/(∃ k:Nat,k<ks.length/\r=k/\p (ks.getD k 0)=true/\∀ i,i<k->p (ks.getD i 0)=false)):=by
 generalize hn:ks.length=n at *
 go_enter Tryz.func153,Tryz.ntmps153
 go_wp2
 go_loopg [8] n (fun g s8 wr=>∃ k:Nat,k<=n/\n-k<=g/\s8=.int .i64 k/\Below w.heap.size w wr/\Hid (∀ i,i<k->p (ks.getD i 0)=false))
 case atStart=>exact⟨0,by omega,by omega,rfl,yk _ _,fun i hi=>by omega⟩
 case round =>
  obtain⟨k,hk,hg,rfl,I,A⟩:=hrel;by_cases T:k<n
  ·obtain⟨b,o,rfl,hc⟩:=(E.below I) k (by omega);have D:=O (ks.getD k 0) (by rw[zae ks 0 (by omega)];exact List.getElem_mem _) wr I;have KS:Hid (zaj w (some ⟨b,o,none⟩) ks):=E;clear E O;generalize Z:ks.getD k 0=y at hc D;have Y:Hid (ks.getD k 0=y):=Z;clear Z
   cases hq:p y with
   | true =>
    rw[hq] at D
    go_wp2_with (go_at_fn K;refine D.mono ?_;rintro e w' ⟨rfl,J⟩)
    go_ret;exact⟨k,rfl,I.trans (J.mono I.size),Or.inr ⟨k,T,rfl,by rw[Y.out];exact hq,A.out⟩⟩
   | false =>
    rw[hq] at D
    go_wp2_with (go_at_fn K;refine D.mono ?_;rintro e w' ⟨rfl,J⟩)
    go_roundg (n-(k+1))
    case measure=>omega
    case rel =>
     refine⟨k+1,by omega,by omega,by go_num,I.trans (J.mono I.size),(show Hid _ from fun i hi=>?_)⟩;by_cases e:i=k
     ·subst e;rw[Y.out];exact hq
     ·exact A.out i (by omega)
  ·have:k=n:=(by omega);subst this;clear E O
   go_wp2
   go_ret;exact⟨-1,rfl,I,Or.inl ⟨rfl,A.out⟩⟩
theorem zlw(K:Nat)(J:Array Value)(p:Int->Bool)(kb L cap:Nat)(ks:List Int)(G:Nat->Value)(w:World)(hL:ks.length=L)(hc:L<=cap)(d5:cap<=9223372036854775807)(hG:w.rowIs kb 3 cap G)(a7:∀ j,j<L->G j=.int .i64 (ks.getD j 0))
  (eg:∀ args w,(callFunc K args).run Tryz.prog w=.ok (.enter K args) w) (hT:∀ x ∈ ks,∀ Z,Off (fun b=>b=kb) w Z->yM K (#[.int .i64 x] ++ J) Z fun e w2=>e=.returned (.bool (p x))/\Below Z.heap.size Z w2) :
  yM 197 #[.slice (some ⟨kb,0,none⟩) L cap,.func (.func K) #[] J] w (znI w kb cap (flt p ks)):=by
 have di:=zii K J p (some ⟨kb,0,none⟩) cap ks w (by omega) (zbN hG (by omega) (by rw[hL];exact a7)) eg (fun x hx Z hb=>hT x hx Z (Off.of_below hb));rw[hL] at di;have HG:Hid (w.rowIs kb 3 cap G):=hG;have a6:Hid _:=a7;have HT:Hid _:=hT;have O:Hid _:=hL;have b3:=hG.lt;clear hG a7 hT hL
 go_enter Tryz.func197,Tryz.ntmps197
 go_wp2_with fail
 refine di.mono ?_;rintro e Z ⟨r,rfl,M,hr⟩;clear di;rcases hr with ⟨rfl,a5⟩ |⟨k,hk,rfl,hp,hf⟩
 ·have b0:=zlA p ks (by rw[O.out];exact a5);have E:Hid _:=b0;clear a5 b0
  go_wp2
  go_ret;refine⟨by rw[E.out,O.out];rfl,Off.of_below M,G,HG.out.of_block (M.block kb b3),fun j hj=>?_⟩;rw[E.out] at hj |-;exact a6.out j (by rw[<- O.out];exact hj)
 ·have d4:((k:Int) == -1)=false:=beq_eq_false_iff_ne.2 (by omega)
  have F0:Hid (flt p (ks.take (k+1))=ks.take k):=by
   show _=_;rw[zgQ p ks k (by rw[O.out];exact hk),hp,yb rfl,List.append_nil];refine zlA p _ (fun i hi=>?_);rw[List.length_take] at hi;have b4:=O.out;have h1:=hf i (by omega);rw[zae ks 0 (by omega)] at h1;rw[zae (ks.take k) 0 (by rw[List.length_take];omega),List.getElem_take];exact h1
  have a9:Hid (Z.rowIs kb 3 cap G):=HG.out.of_block (M.block kb b3)
  have FI:Hid (∀ t,t<k->G t=.int .i64 ((flt p (ks.take (k+1))).getD t 0)):=fun t T=>by
   have b4:=O.out;rw[F0.out,a6.out t (by omega),zae ks 0 (by omega),zae (ks.take k) 0 (by rw[List.length_take];omega),List.getElem_take]
  have FL:Hid ((flt p (ks.take (k+1))).length=k):=by
   have b4:=O.out;show _=_;rw[F0.out,List.length_take];omega
  have O1:Hid (Off (fun b=>b=kb) w Z):=Off.of_below M;clear hp hf M
  go_wp2
  go_loopg [5,6] L (fun g1 s5 s6 wr=>∃ (i j:Nat) (G2:Nat->Value),i<j/\j<=L/\L-j<=g1/\s5=.int .i64 i/\s6=.int .i64 j/\Hid (Off (fun b=>b=kb) w wr)/\Hid (wr.rowIs kb 3 cap G2)/\Hid ((flt p (ks.take j)).length=i)/\Hid (∀ t,t<i->G2 t=.int .i64 ((flt p (ks.take j)).getD t 0))/\Hid (∀ t,j<=t->t<L->G2 t=.int .i64 (ks.getD t 0)))
  case atStart=>exact⟨k,k+1,G,by omega,by omega,by omega,rfl,by go_num,O1,a9,FL,FI,(show Hid _ from fun t _ T=>a6.out t T)⟩
  case round =>
   clear a9 FI FL O1;obtain⟨i,j,G2,c8,c9,b9,rfl,rfl,O2,R2,L2,I2,J2⟩:=hrel;have U:kb<wr.heap.size:=R2.out.lt;have b1:=R2.out.frozen;by_cases a8:j<L
   ·have b6:(j:Int)<(L:Int):=(by omega);have cj:=R2.out.cell (i:=j) (by omega);rw[J2.out j (yj _) a8] at cj;have ci:=R2.out.cell (i:=i) (by omega);have D:=HT.out (ks.getD j 0) (by rw[zae ks 0 (by rw[O.out];exact a8)];exact List.getElem_mem _) wr O2.out;have FS:=zgQ p ks j (by rw[O.out];exact a8);generalize hy:ks.getD j 0=y at *;have HY:Hid _:=hy;clear hy
    cases hq:p y with
    | true =>
     rw[hq] at D FS;rw[yb rfl,List.append_nil] at FS;have I:Hid _:=FS;clear FS
     go_wp2_with (go_at_fn K;refine D.mono ?_;rintro e w2 ⟨rfl,F⟩)
     go_roundg (L-(j+1))
     case measure=>omega
     case rel=>exact⟨i,j+1,G2,by omega,by omega,by omega,rfl,by go_num,O2.out.trans (Off.of_below F),R2.out.of_block (F.block kb U),(show _=_ by rw[I.out];exact L2.out),(show Hid _ from fun t T=>by rw[I.out];exact I2.out t T),(show Hid _ from fun t h1 h2=>J2.out t (by omega) h2)⟩
    | false =>
     rw[hq] at D FS;rw[ya (by simp)] at FS;have I:Hid _:=FS;clear FS
     go_wp2_with (go_at_fn K;refine D.mono ?_;rintro e w2 ⟨rfl,F⟩;have b7:=(F.cell (by exact U)).trans ci;have b5:=fun o=>(F.frozen (by exact U)).trans (b1 o))
     go_roundg (L-(j+1))
     case measure=>omega
     case rel =>
      refine⟨i+1,j+1,_,by omega,by omega,by omega,by go_num,by go_num,(O2.out.trans (Off.of_below F)).trans (zcH (X:=fun b=>b=kb) _ rfl _),(R2.out.of_block (F.block kb U)).set i (.int .i64 y),(show _=_ by rw[I.out,List.length_append,L2.out];rfl),(show Hid _ from fun t T=>?_),(show Hid _ from fun t h1 h2=>?_)⟩
      ·rw[I.out];by_cases e:t=i
       ·subst e;rw[yb rfl];simp[List.getD,L2.out]
       ·rw[ya e,I2.out t (by omega)];simp[List.getD,List.getElem?_append,L2.out,show t<i by omega]
      ·rw[ya (by omega)];exact J2.out t (by omega) h2
   ·have b2:j=L:=(by omega);subst b2;have c7:(i:Int)<=(cap:Int):=(by omega);have c6:(i:Int)<=(j:Int):=by omega
    have EF:Hid (flt p (ks.take j)=flt p ks):=by
     show _=_;rw[<- O.out,List.take_length]
    have b8:∀ ty,(Builtin.clear_ #[48] ty #[.slice (some ⟨kb,i,none⟩) (j-i) (cap-i)]).run Tryz.prog wr=.ok (.tuple #[]) (wr.setCells kb i (List.replicate (j-i) (.int .i64 0))):=fun ty=>Lib.run_clear_slice wr 48 3 ty (.int .i64 0) Tryz.underlying48 Tryz.zeroValue3 rfl rfl kb i (j-i) (cap-i) (by omega) (fun t T=>by rw[R2.out.cell (by omega)];rfl) (fun t T=>b1 _)
    go_wp2
    go_ret;refine⟨?_,O2.out.trans (zbC (X:=fun b=>b=kb) rfl _ _ _),_,zbD _ _ _ _ R2.out,fun t T=>?_⟩
    ·rw[<- EF.out,L2.out];rfl
    ·rw[<- EF.out,L2.out] at T;rw[ya (by omega),I2.out t T,EF.out]
theorem zkf(K:Nat)(D:Array Value)(w:World)(M:∀ args w,(callFunc K args).run Tryz.prog w=.ok (.enter K args) w) :
  yM 197 #[.slice none 0 0,.func (.func K) #[] D] w fun e w' => e=.returned (.slice none 0 0)/\Below w.heap.size w w' := by
 have I:=zii K D (fun _=>true) none 0 [] w (by simp) (fun i hi=>absurd hi (yx _)) M (fun x T=>by cases T)
 go_enter Tryz.func197,Tryz.ntmps197
 go_wp2_with fail
 refine I.mono ?_;rintro e U ⟨r,rfl,E,J⟩
 have F:r = -1:=by
  rcases J with ⟨h,_⟩ |⟨k,O,_⟩
  ·exact h
  ·exact absurd O (yx _)
 subst F;clear J I
 go_wp2
 go_ret;exact⟨rfl,E⟩
end Go.Proofs.YtcbcpomacdngmaaGreat
