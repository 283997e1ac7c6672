/-
  x
-/
import Derived.Test.YtcbcpomacdngmaaGreatA15
namespace Go.Proofs.YtcbcpomacdngmaaGreat
set_option maxRecDepth 100000
set_option maxHeartbeats 4000000
set_option linter.unusedVariables false
open Go.RowKit Go.ChangeShapes Go.WideShapes Tryz
variable{i m:Nat}{k:Int}{G:List Cl}
def JY(L:Nat)(K:Nat->Value)(v:Value):Prop:=∀ i,i<L->∀ b,(K i).ownBlock=some b->v.ownBlock≠some b
theorem Jm{q:Nat}(h:q<=1000):(Lit.int .i64 (q:Int)).wf=true:=by
 unfold Lit.wf;simp[IntKind.min,IntKind.max,IntKind.signed,IntKind.bits];omega
theorem Jn(a:OA)(c:Nat)(G:List Cl)(w:Wd)(hG:kD G)(h0:0<G.length)(hN:G.length<=24)(c9:∀ i,i<G.length->(cl G i).ks.length<=8)(hS:aO w a G) :
  yO 164 #[.agg #[.slice a G.length c],.int .i64 0] w fun e w' => ∃ v K,e=.returned (.agg #[v])/\Below w.heap.size w w' /\ eH w.heap.size (bL G) K v w' := by
 obtain⟨i0,i7,j3,j4,j5⟩:=info_parts Je;have k3:=@run_makeMap prog;have eg:=yM func180 oad rfl;have BR:Hid (∀ (v' : Value) (T' : List Int) (W:Wd),eY W (w.heap.size+5) (w.heap.size+4) (w.heap.size+2) (w.heap.size+3) 0 v' T' -> T'.length<100000->w.heap.size+5<=W.heap.size->Calls _ _ _ _ _):=fun v' T' W h1 h4 h5=>UF _ _ _ _ 0 v' T' 0 W h1 oae oaa h4 h5
 have CC:Hid (∀ (y:Nat),y<G.length->∀ (ka:OA) (kc nn:Nat) (v' : Value) (T' : List Int) (W:Wd),eY W (w.heap.size+5) (w.heap.size+4) (w.heap.size+2) (w.heap.size+3) nn v' T' -> w.heap.size+5<=W.heap.size->nn<=1000->T'.length<=1000->(∀ W', Below w.heap.size W W' -> aG W' ka (cl G y).ks)->Calls _ _ _ _ _):=fun y hy ka kc nn v' T' W h1 h2 h3 h4 h5 =>
  Jd (cl G y) ka kc _ w.heap.size _ _ _ nn v' T' W h1 h2 (c9 y hy) h3 h4 (fun k hk=>by obtain⟨q,e,hq⟩:=hG y hy k hk;rw[e];exact Jm oaa) ⟨oaa,oaa,oaa⟩ h5
 have PL:Hid (∀ i,i<(bfs G i).length->∃ y:Nat,(bfs G i).getD i 0=y/\y<G.length):=fun i hi=>(uM hG h0 i).2 _ (by rw[aJ _ _ hi];exact List.getElem_mem hi);have SH:Hid (∀ i,(bfs G i).length<=G.length):=fun i=>Ia hG h0 i;have h9:Hid (∀ (i y:Nat),i<(bfs G i).length->(bfs G i).getD i 0=y->(bL G).take (i+1)=(bL G).take i++[⟨(cl G y).n,(cl G y).ks.map (at1 (bfs G (i+1)))⟩]):=fun i y h1 h2=>Jk hG h0 h1 h2;have i4:Hid (∀ (i y:Nat),i<(bfs G i).length->(bfs G i).getD i 0=y->brings (bfs G i) (cl G y).ks=bfs G (i+1)):=fun i y h1 h2=>by have:=UK h1;rwa [h2,yk] at this
 have h8:Hid (∀ i,(bfs G i).length<=(bfs G (i+1)).length):=Jl G;have K8:Hid (∀ i,i<G.length->(cl G i).ks.length<=8):=c9;have CL:Hid ((bL G).length=(reach G).length):=xK h0;have e0:Hid (∀ i,¬ i<(bfs G i).length->bfs G i=reach G):=fun i h=>TS hG h0 h;have g7:Hid (∀ i,i<(bfs G i).length->i<(reach G).length):=fun i h=>(UJ hG h0 h).1;have HS:Hid (aO w a G):=hS;clear hS c9 hG;obtain⟨n,hn⟩:∃ n,G.length=n:=⟨_,rfl⟩;have HN:Hid (G.length=n):=hn;rw[hn] at h0 hN CC PL SH K8 |-;clear hn
 go_enter func164,ntmps164
 go_wp2_with fail
 refine yj (BR (.slice none 0 0) [] _ ?st oac (by simp only[yw];omega)) ?_
 case st =>
  refine⟨?_,?_,?_,World.ownsRow_nil _ _ _ _⟩
  ·have:=yN ((((w.alloc (.cells #[.slice a n c] 47)).alloc (.cells #[.slice none 0 0] 47)).alloc (.cells #[.slice none 0 0] 48)).alloc (.map #[] 0)) (.cells #[.map (some (w.heap.size+3))] 220);simpa using this
  ·refine(Below.heap_alloc _ _ _ (by simp only[yw];omega)).trans ((Below.heap_alloc _ _ _ (by simp only[yw];omega)).trans ?_);have:=yN ((w.alloc (.cells #[.slice a n c] 47)).alloc (.cells #[.slice none 0 0] 47)) (.cells #[.slice none 0 0] 48);simpa using this
  ·have:=dU.made prog 3 (((w.alloc (.cells #[.slice a n c] 47)).alloc (.cells #[.slice none 0 0] 47)).alloc (.cells #[.slice none 0 0] 48));simp only[yw] at this;exact(this.kept (Below.heap_alloc _ _ _ (by simp only[yw];omega))).congr (fun kl _=>by unfold lk;split <;> rfl)
 rintro e w1 ⟨v1,rfl,e8,_,a9⟩;have j0:=a9.size;simp only[yw] at j0;have x0:w1.heap[w.heap.size]?=some (.cells #[.slice a n c] 47 (0,0)):=(a9.block _ (by simp only[yw];omega) (by rintro(e|e|e) <;> first|omega|cases e)).trans ((Below.heap_alloc _ _ _ (by simp only[yw];omega)).trans ((Below.heap_alloc _ _ _ (by simp only[yw];omega)).trans ((Below.heap_alloc _ _ _ (by simp only[yw];omega)).trans ((Below.heap_alloc _ _ _ (by simp only[yw];omega)).trans (yN w _)))));have x1:w1.heap[w.heap.size+1]?=some (.cells #[.slice none 0 0] 47 (0,0)):=(a9.block _ (by simp only[yw];omega) (by rintro(e|e|e) <;> first|omega|cases e)).trans ((Below.heap_alloc _ _ _ (by simp only[yw];omega)).trans ((Below.heap_alloc _ _ _ (by simp only[yw];omega)).trans ((Below.heap_alloc _ _ _ (by simp only[yw];omega)).trans (by have:=yN (w.alloc (.cells #[.slice a n c] 47)) (.cells #[.slice none 0 0] 47);simpa using this))));have e4:Hid (Bl w w1):=((aM w _ _).trans ((((yv w.heap.size _).alloc (by simp only[yw];omega) _).alloc (by simp only[yw];omega) _).alloc (by simp only[yw];omega) _)).trans (a9.below (by simp only[yw];omega) (fun k hk=>by rcases hk with e|e|e <;> first|omega|cases e));have d8:Hid (eY w1 (w.heap.size+5) (w.heap.size+4) (w.heap.size+2) (w.heap.size+3) (1+8*0) v1 (bfs G 0)):=e8;clear e8 a9 BR
 go_wp2_with fail
 go_loopg [8,9] n (fun g s8 s9 wr=>∃ (i:Nat) (v' : Value) (K:Nat->Value),i<=n/\n-i<=g/\s9=.int .i64 i/\wr.heap[w.heap.size]?=some (.cells #[.slice a n c] 47 (0,0))/\wr.heap[w.heap.size+1]?=some (.cells #[.slice none 0 0] 47 (0,0))/\w.heap.size+5<=wr.heap.size/\i<=(bfs G i).length /\
   Hid (eY wr (w.heap.size+5) (w.heap.size+4) (w.heap.size+2) (w.heap.size+3) (1+8*i) v' (bfs G i))/\Hid (eH (w.heap.size+5) ((bL G).take i) K s8 wr)/\Hid (JY i K v')/\Hid (Bl w wr))
 case atStart=>exact⟨0,v1,fun _=>.slice none 0 0,oaa,oaa,rfl,x0,x1,oaa,Nat.zero_le _,d8,(show eH (w.heap.size+5) [] _ _ w1 from ⟨World.ownsRow_nil _ _ _ _,fun i hi=>by cases hi⟩),(fun i hi=>absurd hi (yB _)),e4⟩
 case round =>
  obtain⟨i,v', KK,hi,hg,rfl,y0,y1,g0,i8,J,a7,c8,T⟩:=hrel;clear x0 x1 d8 e4;have b0:=cZ y0;obtain⟨ta,tc,hv,d5⟩:=tO J.own;subst hv;have b2:=cZ J.btE;have z0:=aR y0;have z2:=aR J.btE;obtain⟨ca,cc,j2,_⟩:=a7.cls;subst j2
  have U:((bL G).take i).length=i:=by
   rw[List.length_take,CL.out];by_cases h:i<(bfs G i).length
   ·have:=g7.out i h;omega
   ·have e:=e0.out i h;rw[<- e];omega
  rw[U];have i3:=SH.out i;by_cases Z:i<(bfs G i).length
  ·obtain⟨y,hy,d7⟩:=PL.out i Z;obtain⟨tb,j6,et,g4⟩:=d5 i Z;subst et;rw[hy] at g4;obtain⟨gb,go,i5,c0,ka,kc,c1,e9⟩:=HS.out y (by rw[HN.out];exact d7);subst i5;have d0:=aA c0 T;have d1:=aA c1 T;have zt:=yi _ _ g4;have zg:=yi _ _ d0;have i9:(i:Int)<((bfs G i).length:Int):=oaa;have j9:(y:Int)<(n:Int):=oaa;have NX:Hid _:=h9.out i y Z hy;have ST:Hid _:=i4.out i y Z hy;have MO:=h8.out i;have b8:Hid (∀ W', Below w.heap.size wr.drew W' -> aG W' ka (cl G y).ks):=fun W' i6=>e9.below (T.drew.trans i6);have b4:Hid _:=CC.out y d7 ka kc (1+8*i) (.slice (some ⟨tb,j6,none⟩) (bfs G i).length tc) (bfs G i) wr.drew (J.kept (w' := wr.drew) (fun _ _ _=>rfl)) (by exact g0) oaa oaa b8.out;have k8:=K8.out y d7;clear d5 e9 c0 c1 hy;obtain⟨tl,b3⟩:∃ z,(bfs G i).length=z:=⟨_,rfl⟩;have k0:Hid ((bfs G i).length=tl):=b3;rw[b3] at Z i9 b2 b4 i3 i8 MO;have b7:Hid (JY i KK (.slice (some ⟨tb,j6,none⟩) tl tc)):=(by have h:=c8.out;rw[b3] at h;exact h);have M:Hid (eY wr (w.heap.size+5) (w.heap.size+4) (w.heap.size+2) (w.heap.size+3) (1+8*i) (.slice (some ⟨tb,j6,none⟩) tl tc) (bfs G i)):=(by have h:=J.out;rw[b3] at h;exact h);have a8:Hid (eH (w.heap.size+5) ((bL G).take i) KK (.slice ca i cc) wr):=(by have h:=a7.out;rw[U] at h;exact h);have a6:Hid (((bL G).take i).length=i):=U;clear b3 U c8 J a7;generalize (bL G).take i=Li at *;generalize bfs G i=Ti at *;obtain⟨Tn,d4⟩:∃ z,bfs G (i+1)=z:=⟨_,rfl⟩;have e6:Hid (bfs G (i+1)=Tn):=d4;rw[d4] at NX ST MO;clear d4
   generalize cl G y=xy at *;obtain⟨xn,a5⟩:=xy;dsimp only at d0 d1 k8 b4 NX ST b8;obtain⟨xl,d6⟩:∃ z,a5.length=z:=⟨_,rfl⟩;have g9:Hid (a5.length=xl):=d6;rw[d6] at d1 k8 b4;clear d6
   go_wp2_with fail
   refine wp_region_noPanic ?_;refine wp_region_held_drew (S:=fun j7=>j7.cell? ⟨w.heap.size,0,none⟩=some (.slice (some ⟨gb,go,none⟩) n c)) oad (by(try dsimp only);go_keep) (fun hHeld=>?_);refine wpAnyH_take (i:=0) (v:=?_) rfl oad oad oad (fun _ _ _ h=>h) (Or.inl ⟨by rfl,?_⟩) (by assumption) ?_;rotate_left
   ·intro w D;(try dsimp only at D);first|(go_simp;done)|(go_simp;with_reducible rfl)
   simp[Act.put];refine wpAnyH_take (i:=1) (v:=?_) rfl oad oad oad (fun _ _ _ h=>h) (Or.inl ⟨by rfl,?_⟩) (by assumption) ?_;rotate_left
   ·intro w D;(try dsimp only at D);first|(go_simp;done)|(go_simp;with_reducible rfl)
   simp[Act.put];refine wpAnyH_take (i:=2) (v:=?_) rfl oad oad oad (fun _ _ _ h=>h) (Or.inl ⟨by rfl,?_⟩) (by assumption) ?_;rotate_left
   ·intro w D;(try dsimp only at D);first|(go_simp;done)|(go_simp;with_reducible rfl)
   simp[Act.put];refine wpAnyH_take (i:=4) (v:=?_) rfl oad oad oad (fun _ _ _ h=>h) (Or.inl ⟨by rfl,?_⟩) (by assumption) ?_;rotate_left
   ·intro w D;(try dsimp only at D);first|(go_simp;done)|(go_simp;with_reducible rfl)
   simp[Act.put];refine wpAnyH_take (i:=9) (v:=?_) rfl oad oad oad (fun _ _ _ h=>h) (Or.inl ⟨by rfl,?_⟩) (by assumption) ?_;rotate_left
   ·intro w D;(try dsimp only at D);first|(go_simp;done)|(go_simp;with_reducible rfl)
   simp[Act.put];refine wpAnyH_ready (rs:=[3]) oad oac ?_;refine AllReadyH.cons rfl (fun K hK=>?_) AllReadyH.nil;go_simp;refine hK.out _ _ ?_ (fun hHeld=>?_)
   ·(try dsimp only)
    first|go_keep|assumption
   clear hK K
   try simp[Act.put]
   refine wpAnyH_take (i:=5) (v:=?_) rfl oad oad oad (fun _ _ _ h=>h) (Or.inl ⟨by rfl,?_⟩) (by assumption) ?_;rotate_left
   ·intro w D;(try dsimp only at D);first|(go_simp;done)|(go_simp;with_reducible rfl)
   simp[Act.put];refine wpAnyH_ready (rs:=[6]) oad oac ?_;refine AllReadyH.cons rfl (fun K hK=>?_) AllReadyH.nil;go_simp;refine hK.out _ _ ?_ (fun hHeld=>?_)
   ·(try dsimp only)
    first|go_keep|assumption
   clear hK K
   try simp[Act.put]
   refine wpAnyH_take (i:=7) (v:=?_) rfl oad oad oad (fun _ _ _ h=>h) (Or.inl ⟨by rfl,?_⟩) (by assumption) ?_;rotate_left
   ·intro w D;(try dsimp only at D);first|(go_simp;done)|(go_simp;with_reducible rfl)
   simp[Act.put];refine wpAnyH_ready (rs:=[8]) oad oac ?_;refine AllReadyH.cons rfl (fun K hK=>?_) AllReadyH.nil;go_simp;refine hK.out _ _ ?_ (fun hHeld=>?_)
   ·(try dsimp only)
    first|go_keep|assumption
   clear hK K
   try simp[Act.put]
   refine wpAnyH_ready (rs:=[10]) oad oac ?_;refine AllReadyH.cons rfl (fun K hK=>?_) AllReadyH.nil;go_simp;refine yj b4.out ?_;rintro e w5 ⟨v5,kb,rfl,F,b9,I,k2,g5,b1⟩;have k4:wr.heap.size<=w5.heap.size:=I.size;have b6:w5.heap[w.heap.size]?=some (.cells #[.slice (some ⟨gb,go,none⟩) n c] 47 (0,0)):=(I.block _ (by exact z0) (by rintro(e|e|e) <;> first|omega|(have:=(M.own.lt _ e).1;omega))).trans y0;have e7:w5.heap[w.heap.size+1]?=some (.cells #[.slice none 0 0] 47 (0,0)):=(I.block _ (by exact aR y1) (by rintro(e|e|e) <;> first|omega|(have:=(M.own.lt _ e).1;omega))).trans y1;have t0:=cZ b6;have c7:Hid (Bl w w5):=T.drew.trans (I.below T.size (fun k hk=>by rcases hk with e|e|e <;> first|omega|(have:=(M.own.lt k e).1;omega)))
   have b5:Hid (eH (w.heap.size+5) Li KK (.slice ca i cc) w5):=(show eH (w.heap.size+5) Li KK (.slice ca i cc) wr.drew from a8.out).kept (fun j h1 h2 h3=>I.block j h2 (by
    rintro(e|e|e)
    ·omega
    ·omega
    ·rcases h3 with h3 |⟨q,hq,h3⟩
     ·exact wL M.own a8.out.1 oae j e h3
     ·exact b7.out q (by rw[<- a6.out];exact hq) j h3 e))
   have h6:Hid (JY (i+1) (fun q=>if q=i then .slice (some ⟨kb,0,none⟩) xl xl else KK q) v5):=fun q hq b hb=>by
    by_cases eq:q=i
    ·subst eq;simp only[if_true] at hb;cases hb;exact g5
    ·simp only[yd eq] at hb;rcases b9 with e |⟨j,e,hj⟩
     ·rw[e];exact b7.out q oaa b hb
     ·rw[e];intro e2;cases e2;have:=((a8.out.2 q (by rw[a6.out];omega)).lt b hb).2;have k1:wr.heap.size<=b:=hj;omega
   have d9:Hid (eY w5 (w.heap.size+5) (w.heap.size+4) (w.heap.size+2) (w.heap.size+3) (1+8*(i+1)) v5 Tn):=by
    rw[ST.out] at F;exact⟨F.bmE,F.btE,F.mp.mono oaa,F.own⟩
   have i2:Hid (w5.ownsRow (w.heap.size+5) 3 1 (.slice (some ⟨kb,0,none⟩) xl xl) (a5.map (at1 Tn)).length ((a5.map (at1 Tn)).map (Value.int .i64))):=by
    rw[ST.out] at b1;have h:=kW b1 (B' := w.heap.size+5) (by exact g0);rw[List.length_map,g9.out];exact h
   clear F b9 I g5 b1
   go_wp2_with fail
   refine hK.out _ _ ?_ (fun hHeld=>?_)
   ·(try dsimp only)
    first|exact t0|go_keep
   clear hK K
   try simp[Act.put]
   refine wpAnyH_ready (rs:=[11]) oad oac ?_;refine AllReadyH.cons rfl (fun K hK=>?_) AllReadyH.nil;go_simp;refine hK.out _ _ ?_ (fun hHeld=>?_)
   ·(try dsimp only)
    first|exact(aB _ _).cell (by exact aR b6) |>.trans t0|go_keep
   clear hK K
   try simp[Act.put]
   refine wpAnyH_ready (rs:=[12]) oad oac ?_;refine AllReadyH.cons rfl (fun K hK=>?_) AllReadyH.nil;refine Ji rfl (.tmp 21) (.tmp 32) 45 rfl (w.heap.size+5) 55 i0 (.agg #[.int .i64 0,.slice none 0 0]) 2 32 underlying45 i7 j3 j4 j5 rfl oae (.slice ca i cc) i (uU Li KK) rfl ?own ⟨w5.heap.size,0,none⟩ 1 1 (kF ⟨xn,a5.map (at1 Tn)⟩ (.slice (some ⟨kb,0,none⟩) xl xl)) rfl rfl (Jg oaf oaf) Jh oai oaa (by simp only[yw];omega) ?_
   case own=>exact(by have h:=b5.out.1;rw[a6.out] at h;exact h.alloc _)
   intro v6 w6 c6 E;have j1:=E.size;simp only[yw] at j1;have cb:=(b5.out.1).lt;have O:∀ j,j<w5.heap.size->(Value.slice ca i cc).ownBlock≠some j->w6.heap[j]?=w5.heap[j]?:=fun j h1 h2=>(E.block j (by simp only[yw];omega) (fun e=>h2 e.symm)).trans (Below.heap_alloc _ _ _ h1);have Y0:=(O _ (aR b6) (fun e=>by have:=(cb _ e).1;omega)).trans b6;have Y1:=(O _ (aR e7) (fun e=>by have:=(cb _ e).1;omega)).trans e7
   have i1:Hid (eH (w.heap.size+5) ((bL G).take (i+1)) (fun q=>if q=i then .slice (some ⟨kb,0,none⟩) xl xl else KK q) v6 w6):=by
    rw[NX.out];have h:=b5.step (s:=⟨xn,a5.map (at1 Tn)⟩) i2.out E (by rw[a6.out];exact c6);rw[a6.out] at h;exact h
   have g6:Hid (eY w6 (w.heap.size+5) (w.heap.size+4) (w.heap.size+2) (w.heap.size+3) (1+8*(i+1)) v5 Tn):=d9.kept (fun j hj hx=>O j hj (fun e=>by
    have:=(cb _ e).1;rcases hx with e2|e2|e2|e2
    ·omega
    ·omega
    ·omega
    ·exact wL d9.own b5.out.1 oae j e2 e))
   have g8:Hid (Bl w w6):=(c7.alloc (by have:=c7.size;omega) _).grown E (by have:=c7.size;simp;omega) (fun k hk=>by have:=(cb k hk).1;omega);have h7:Hid _:=h6;have t6:=cZ Y0;clear c6 E O cb;refine hK.out _ _ ?_ (fun hHeld=>?_)
   ·(try dsimp only)
    first|exact t6|go_keep
   clear hK K
   try simp[Act.put]
   refine wpAnyH_take (i:=13) (v:=?_) rfl oad oad oad (fun _ _ _ h=>h) (Or.inl ⟨by rfl,?_⟩) (by assumption) ?_;rotate_left
   ·intro w D;(try dsimp only at D);first|(go_simp;done)|(go_simp;with_reducible rfl)
   simp[Act.put];refine wpAnyH_done oad ?_ _;refine NoPanic.normal ?_
   go_wp2_with fail
   go_roundg (n-(i+1))
   case measure=>omega
   case rel=>exact⟨i+1,v5,_,oaa,oaa,by go_num,Y0,Y1,oaa,(by rw[e6.out];omega),(by rw[e6.out];exact g6),i1,h7,g8⟩
  ·have e1:=e0.out i Z
   have e2:(bL G).take i=bL G:=by
    rw[List.take_of_length_le];rw[CL.out,<- e1];omega
   have e3:Hid (∀ va,eH w.heap.size (bL G) KK (.slice ca i cc) (wr.setCell ⟨w.heap.size+1,0,none⟩ va)):=fun va=>by
    have h:=a7.out;rw[U,e2] at h;have h2:eH w.heap.size (bL G) KK (.slice ca i cc) wr:=⟨kW h.1 oaa,fun j hj=>kW (h.2 j hj) oaa⟩;refine⟨fG h.1 (fun k hk=>yx _ _ _ _ ?_) |> fun z=>kW z oaa,fun j hj=>kW (fG (h.2 j hj) (fun k hk=>yx _ _ _ _ ?_)) oaa⟩
    ·have:=(h.1.lt k hk).1;show k≠w.heap.size+1;omega
    ·have:=((h.2 j hj).lt k hk).1;show k≠w.heap.size+1;omega
   have q0:=cZ y1;have q1:=iB (o:=0) y1;have j8:¬ (i:Int)<((bfs G i).length:Int):=oaa;have r0:(wr.setCell ⟨w.heap.size+1,0,none⟩ (.slice ca i cc)).cell? ⟨w.heap.size+1,0,none⟩=some (.slice ca i cc):=World.cell?_setCell_same _ _ _ q0;have z3:w.heap.size+1<wr.heap.size:=oaa;have e5:Hid (Bl w (wr.setCell ⟨w.heap.size+1,0,none⟩ (.slice ca i cc))):=T.setCell (by show w.heap.size<=w.heap.size+1;omega) _;clear d5 e1 e2 U J a7 c8;generalize (bfs G i).length=tl at *
   go_wp2_with fail
   refine yz (v:=.agg #[.slice ca i cc]) (by simp[results,results164,go_sem,r0]) rfl (by first|exact⟨_,KK,rfl,e5.out,e3.out _⟩|exact⟨_,rfl,e5.out,KK,e3.out _⟩)
theorem JZ{m:Nat}:∀ {l:List Cl},cellsE m l=0↔∀ x ∈ l,iF m x=0
 | []=>by simp[cellsE]
 | x :: l=>by
  rw[cellsE];by_cases h:iF m x=0
  ·rw[ye h,JZ];simp[h]
  ·rw[yd h];simp[h]
theorem KA{x:Cl}(h:iF m x=0):(-1000000<=x.n/\x.n<=1000000)/\x.ks.length<=8/\∀ k ∈ x.ks,∃ q:Nat,k=q/\q<m:=by
 unfold iF at h
 split at h
 ·omega
 ·rename_i h1
  split at h
  ·omega
  ·rename_i I
   split at h
   ·omega
   ·rename_i D;refine⟨oaa,oaa,fun k F=>?_⟩;simp only[List.any_eq_true,not_exists,not_and] at D;have E:=D k F;simp only[Bool.not_eq_true', decide_eq_false_iff_not,Decidable.not_not] at E;exact⟨k.toNat,oaa,oaa⟩
theorem Jo{x:Cl}(h1:-1000000<=x.n/\x.n<=1000000)(F:x.ks.length<=8)(D:∀ k ∈ x.ks,∃ q:Nat,k=q/\q<m):iF m x=0:=by
 unfold iF;rw[yd oaa,yd oaa,yd];simp only[List.any_eq_true,not_exists,not_and];intro k E;obtain⟨q,e,I⟩:=D k E;simp only[Bool.not_eq_true', decide_eq_false_iff_not,Decidable.not_not];omega
structure Right (G:List Cl):Prop where
 few:G.length<=24
 range:∀ i,i<G.length->-1000000<=(cl G i).n/\(cl G i).n<=1000000
 kids8:∀ i,i<G.length->(cl G i).ks.length<=8
 kids:kD G
theorem pE:bF G=0↔Right G:=by
 unfold bF;constructor
 ·intro h
  split at h
  ·omega
  ·rename_i hl;have h1:=JZ.1 h;have D:∀ i,i<G.length->iF G.length (cl G i)=0:=fun i hi=>h1 _ (by rw[kC hi];exact List.getElem_mem hi);exact⟨oaa,fun i hi=>(KA (D i hi)).1,fun i hi=>(KA (D i hi)).2.1,fun i hi=>(KA (D i hi)).2.2⟩
 ·intro h;rw[yd (by have:=h.few;omega),JZ];intro x E;obtain⟨i,hi,rfl⟩:=List.getElem_of_mem E;have:=Jo (m:=G.length) (h.range i hi) (h.kids8 i hi) (h.kids i hi)
  rwa [kC hi] at this
theorem Right.copy(h:Right G):Right (bL G):=by
 by_cases h0:G.length=0
 ·rw[JM h0];exact⟨oac,(fun i hi=>by cases hi),(fun i hi=>by cases hi),(fun i hi=>by cases hi)⟩
 ·have h0:0<G.length:=oaa
  have hl:=xK h0;have F:=Hz h.kids h0
  have E:∀ i,i<(bL G).length->∃ q:Nat,q<G.length/\cl (bL G) i=uL G (reach G) (q:Int):=fun i hi=>by
   rw[hl] at hi;obtain⟨q,e,D⟩:=(TV h.kids h0).2 ((reach G).getD i 0) (by rw[aJ _ _ hi];exact List.getElem_mem hi);exact⟨q,D,by rw[JL h0 hi,e]⟩
  refine⟨by have:=h.few;omega,fun i hi=>?_,fun i hi=>?_,Ic h.kids⟩
  ·obtain⟨q,D,e⟩:=E i hi;rw[e];have:=h.range q D;simpa [uL] using this
  ·obtain⟨q,D,e⟩:=E i hi;rw[e];have:=h.kids8 q D;simpa [uL] using this
theorem Right.big(h:Right G):fK G:=fun i hi=>by have:=h.kids8 i hi;omega
def uV(G:List Cl):List Cl:=if bF G=0 then bL G else []
theorem eH.nil(B:Nat)(w:Wd):eH B [] (fun _=>.slice none 0 0) (.slice none 0 0) w:=⟨World.ownsRow_nil _ _ _ _,fun i hi=>by cases hi⟩
theorem Jp(a:OA)(c:Nat)(G:List Cl)(w:Wd)(hN:G.length<=9223372036854775807)(hB:fK G)(hS:aO w a G) :
  yO 160 #[.agg #[.slice a G.length c]] w fun e w' => ∃ v,e=.returned (.tuple #[.agg #[v],.int .i64 (bF G)])/\Below w.heap.size w w' /\ ∃ K,eH w.heap.size (uV G) K v w' := by
 have D:Hid (∀ W,aO W a G->Calls _ _ _ _ _):=fun W hW=>CE a c G W hN hB hW;have HS:Hid (aO w a G):=hS;have RF:Hid (uV G=if bF G=0 then bL G else []):=(rfl:uV G=_);have CF:Hid (bF G=0->0<G.length->∀ W,aO W a G->Calls _ _ _ _ _):=fun h1 h2 W hW=>Jn a c G W (pE.1 h1).kids h2 (pE.1 h1).few (pE.1 h1).kids8 hW;have NO:Hid (G.length=0->bL G=[]):=JM;clear hS hB;generalize uV G=R at *;generalize bF G=E at *;obtain⟨n,hn⟩:∃ n,G.length=n:=⟨_,rfl⟩;rw[hn] at hN D CF NO |-;clear hn;have M:(((w.alloc (.cells #[.slice a n c] 47)).alloc (.cells #[.slice none 0 0] 47)).frozen? ⟨w.heap.size+1,0,none⟩=false):=oaf
 go_enter func160,ntmps160
 go_wp2_with fail
 refine yj (D _ (HS.below (aM _ _ _))) ?_;rintro e w1 ⟨rfl,hb⟩;have l0:=aA (fE w #[.slice a n c] 47 0 (.cells #[.slice none 0 0] 47) rfl) hb;have O:=aA (fF w #[.slice none 0 0] 47 0 (.cells #[.slice a n c] 47) rfl) hb;have f1:=(hb.frozen (p:=⟨w.heap.size+1,0,none⟩) oac).trans M;have a7:=hb.size;simp only[yw] at a7;have q1:w.heap.size+1<w1.heap.size:=oaa
 have J:Hid (Bl w w1):=(aM w _ _).trans (hb.mono oab);have r0:∀ u v,(w1.setCell ⟨w.heap.size+1,0,none⟩ u).cell? ⟨w.heap.size+1,0,none⟩=some v↔u=v:=fun u v=>by rw[World.cell?_setCell_same _ _ _ O];simp
 clear hb D M;by_cases T:E=0
 ·subst T;have F:Hid (R=bL G):=by show _=_;rw[RF.out,ye rfl]
  by_cases h0:n=0
  ·have a6:Hid (R=[]):=F.trans (NO h0);subst h0;have r1:(w1.setCell ⟨w.heap.size+1,0,none⟩ (.slice none 0 0)).cell? ⟨w.heap.size+1,0,none⟩=some (.slice none 0 0):=World.cell?_setCell_same _ _ _ O;clear r0
   go_wp2_with fail
   refine yz (v:=.tuple #[.agg #[.slice none 0 0],.int .i64 0]) (by simp[results,results160,go_sem,r1]) rfl ⟨_,rfl,J.setCell (by show w.heap.size<=w.heap.size+1;omega) _,_,(show eH _ R _ _ _ by rw[a6.out];exact eH.nil _ _)⟩
  ·have a8:decide ((n:Int)=0)=false:=yH oaa;have a9:((n:Int) == 0)=false:=oab;have U:Hid _:=CF.out rfl oaa;clear r0
   go_wp2_with fail
   refine yj (U _ (HS.below J)) ?_;rintro e w2 ⟨v,K,rfl,hb,I⟩;obtain⟨va,vc,hv,_⟩:=I.cls;subst hv;have m1:=aA O hb;have g1:=(hb.frozen (p:=⟨w.heap.size+1,0,none⟩) (by exact q1)).trans f1;have q2:w.heap.size+1<w2.heap.size:=yC q1 hb.size;have r1:∀ u,(w2.setCell ⟨w.heap.size+1,0,none⟩ u).cell? ⟨w.heap.size+1,0,none⟩=some u:=fun u=>World.cell?_setCell_same _ _ _ m1;have Z:Hid (∀ u,Bl w (w2.setCell ⟨w.heap.size+1,0,none⟩ u)):=fun u=>(J.trans (hb.mono J.size)).setCell (by show w.heap.size<=w.heap.size+1;omega) _
   have a5:Hid (∀ u,eH w.heap.size R K (.slice va (bL G).length vc) (w2.setCell ⟨w.heap.size+1,0,none⟩ u)):=fun u=>by
    rw[F.out];have h1:=I.kept (w' := w2.setCell ⟨w.heap.size+1,0,none⟩ u) (fun j h1 _ _=>yx _ _ _ _ (by show j≠w.heap.size+1;omega));exact⟨kW h1.1 oaa,fun i hi=>kW (h1.2 i hi) oaa⟩
   clear hb I l0 O F RF NO;generalize (bL G).length=m at *
   go_wp2_with fail
   refine yz (v:=.tuple #[.agg #[.slice va m vc],.int .i64 0]) (by simp[results,results160,go_sem,r1]) rfl ⟨_,rfl,Z.out _,K,a5.out _⟩
 ·have F:Hid (R=[]):=by show _=_;rw[RF.out,yd T]
  have e1:(E == 0)=false:=beq_eq_false_iff_ne.2 T;have e2:decide (E=0)=false:=yH T;have r1:(w1.setCell ⟨w.heap.size+1,0,none⟩ (.slice none 0 0)).cell? ⟨w.heap.size+1,0,none⟩=some (.slice none 0 0):=World.cell?_setCell_same _ _ _ O;clear r0
  go_wp2_with fail
  refine yz (v:=.tuple #[.agg #[.slice none 0 0],.int .i64 E]) (by simp[results,results160,go_sem,r1]) rfl ⟨_,rfl,J.setCell (by show w.heap.size<=w.heap.size+1;omega) _,_,(show eH _ R _ _ _ by rw[F.out];exact eH.nil _ _)⟩
structure Fr where
 p:Int
 o:Int
 m:Int
 t:Int
 g:Bool
 deriving DecidableEq
def fr(L:List Fr)(i:Nat):Fr:=L.getD i ⟨0,0,0,0,false⟩
theorem rZ{L:List Fr}(h:i<L.length):fr L i=L[i]:=aJ L _ h
theorem Ju{L M:List Fr}(hl:L.length=M.length)(h:∀ i,i<L.length->fr L i=fr M i):L=M:=by
 apply List.ext_getElem hl;intro i h1 D;have:=h i h1
 rwa [rZ h1,rZ D] at this
theorem UO{P:Int->Prop}(h:∀ a:Fin 8,P ((a.val:Nat):Int)){a:Int}(h0:0<=a)(D:a<=7):P a:=by
 obtain⟨n,rfl⟩:=Int.eq_ofNat_of_zero_le h0;exact h ⟨n,oaa⟩
def jR(x:Fr)(k:Nat):Prop:=if k=0 then x.p = -1 else 0<=x.p/\x.p<=(k:Int)-1
def nU(x:Fr):Prop:=(0<=x.o/\x.o<=9)/\(0<=x.m/\x.m<=7)/\(0<=x.t/\x.t<=1000)
def kM(x y:Fr):Prop:=bits .andNot .i64 x.m y.m=0/\(x.g=true\/y.g=false)
instance (x:Fr) (k:Nat):Decidable (jR x k):=by unfold jR;infer_instance
instance (x:Fr):Decidable (nU x):=by unfold nU;infer_instance
instance (x y:Fr):Decidable (kM x y):=by unfold kM;infer_instance
def frE(L:List Fr)(k:Nat):Int:=if ¬ jR (fr L k) k then 4 else if ¬ nU (fr L k) then 2 else if 0<k/\¬ kM (fr L k) (fr L (fr L k).p.toNat) then 3 else 0
def sD(L:List Fr):Nat->Nat->Int
 | _,0=>0
 | i,n+1=>if frE L i=0 then sD L (i+1) n else frE L i
def jS(L:List Fr)(i:Nat):Int:=sD L i (L.length-i)
def bS(L:List Fr):Int:=if 8<L.length then 1 else jS L 0
theorem Jv{L:List Fr}(h:i<L.length):jS L i=if frE L i=0 then jS L (i+1) else frE L i:=by
 unfold jS;obtain⟨n,hn⟩:∃ n,L.length-i=n+1:=⟨L.length-i-1,oaa⟩;rw[hn,sD,show L.length-(i+1)=n by omega]
theorem Jw{L:List Fr}(h:L.length<=i):jS L i=0:=by
 unfold jS;rw[show L.length-i=0 by omega,sD]
structure gL (L:List Fr):Prop where
 few:L.length<=8
 ok:∀ i,i<L.length->frE L i=0
theorem UQ{L:List Fr}:∀ n i,sD L i n=0↔∀ j,i<=j->j<i+n->frE L j=0
 | 0,i=>by simp[sD];omega
 | n+1,i=>by
  rw[sD];by_cases h:frE L i=0
  ·rw[ye h,UQ n (i+1)];constructor
   ·intro H j h1 D;by_cases e:j=i
    ·rw[e];exact h
    ·exact H j oaa oaa
   ·intro H j h1 D;exact H j oaa oaa
  ·rw[yd h];constructor
   ·intro H;exact absurd H h
   ·intro H;exact H i (yr _) oaa
theorem xW{L:List Fr}:bS L=0↔gL L:=by
 unfold bS jS;by_cases h:8<L.length
 ·rw[ye h];exact⟨fun e=>oaa,fun R=>absurd R.few oaa⟩
 ·rw[yd h,UQ];exact⟨fun H=>⟨oaa,fun i hi=>H i oaa oaa⟩,fun R j _ D=>R.ok j oaa⟩
theorem pF{L:List Fr}{k:Nat}:frE L k=0↔jR (fr L k) k/\nU (fr L k)/\(0<k->kM (fr L k) (fr L (fr L k).p.toNat)):=by
 unfold frE;by_cases h1:jR (fr L k) k
 ·rw[yd (yL h1)];by_cases E:nU (fr L k)
  ·rw[yd (yL E)];by_cases D:0<k/\¬ kM (fr L k) (fr L (fr L k).p.toNat)
   ·rw[ye D];exact⟨fun e=>oaa,fun⟨_,_,h⟩=>absurd (h D.1) D.2⟩
   ·rw[yd D];refine⟨fun _=>⟨h1,E,fun h0=>?_⟩,fun _=>rfl⟩;by_cases F:kM (fr L k) (fr L (fr L k).p.toNat)
    ·exact F
    ·exact absurd ⟨h0,F⟩ D
  ·rw[ye E];exact⟨fun e=>oaa,fun⟨_,h,_⟩=>absurd h E⟩
 ·rw[ye h1];exact⟨fun e=>oaa,fun⟨h,_⟩=>absurd h h1⟩
theorem gL.first{L:List Fr}(R:gL L)(h:0<L.length):(fr L 0).p = -1:=by
 have:=(pF.1 (R.ok 0 h)).1;unfold jR at this;simpa using this
theorem gL.up{L:List Fr}(R:gL L)(h:i<L.length)(h0:0<i):∃ q:Nat,(fr L i).p=q/\q<i/\kM (fr L i) (fr L q):=by
 obtain⟨h1,_,F⟩:=pF.1 (R.ok i h);unfold jR at h1;rw[yd oaa] at h1;obtain⟨q,E⟩:=Int.eq_ofNat_of_zero_le h1.1;have D:=F h0;rw[E] at D;refine⟨q,E,oaa,D⟩
theorem gL.low{L:List Fr}(R:gL L)(h:i<L.length):(fr L i).p<i:=by
 by_cases h0:0<i
 ·obtain⟨q,E,D,_⟩:=R.up h h0;omega
 ·have:i=0:=oaa
  subst this;rw[R.first h];omega
theorem gL.may{L:List Fr}(R:gL L)(h:i<L.length):0<=(fr L i).m/\(fr L i).m<=7:=(pF.1 (R.ok i h)).2.1.2.1
def eZ(L:List Fr):Nat->Int->Int->Bool
 | 0,_,_=>false
 | n+1,k,top=>if 0<=k/\k<L.length then (if k=top then true else eZ L n (fr L k.toNat).p top) else false
def inF(L:List Fr)(k top:Int):Bool:=eZ L L.length k top
theorem vC{L:List Fr}{n:Nat}{top:Int}(h:¬ (0<=k/\k<L.length)):eZ L n k top=false:=by
 cases n with
 | zero=>rfl
 | succ n=>rw[eZ,yd h]
theorem UR{L:List Fr}(R:gL L)(top:Int):∀ (n m:Nat) (k:Int),k<n->k<m->eZ L n k top=eZ L m k top
 | 0,m,k,h1,E=>by rw[vC oaa,vC oaa]
 | n+1,0,k,h1,E=>by rw[vC oaa,vC oaa]
 | n+1,m+1,k,h1,E=>by
  rw[eZ,eZ];by_cases D:0<=k/\k<L.length
  ·rw[ye D,ye D];by_cases e:k=top
   ·rw[ye e,ye e]
   ·rw[yd e,yd e];have:=R.low (i:=k.toNat) oaa;exact UR R top n m _ oaa oaa
  ·rw[yd D,yd D]
theorem UT{L:List Fr}{k:Nat}(h:k<L.length):inF L k k=true:=by
 unfold inF;obtain⟨n,hn⟩:∃ n,L.length=n+1:=⟨L.length-1,oaa⟩;rw[hn,eZ,ye oaa,ye rfl]
theorem DJ{L:List Fr}(R:gL L){top:Int}(h:i<L.length)(D:(i:Int)≠top):inF L i top=inF L (fr L i).p top:=by
 unfold inF;have hl:=R.low h;obtain⟨n,hn⟩:∃ n,L.length=n+1:=⟨L.length-1,oaa⟩
 have e:eZ L L.length (i:Int) top=eZ L n (fr L i).p top:=by
  rw[hn,eZ,ye oaa,yd D,yk]
 rw[e];exact UR R top _ _ _ oaa oaa
def bC(L:List Fr)(k:Int):Int:=if ¬ (0<=k/\k<L.length) then 4 else if (fr L k.toNat).g=true then 5 else 0
def dR(L:List Fr)(k:Int):Int:=if bS L=0 then bC L k else bS L
theorem DU{L:List Fr}(h:bC L k=0):∃ q:Nat,k=q/\q<L.length/\(fr L q).g=false:=by
 unfold bC at h;by_cases h1:0<=k/\k<L.length
 ·rw[yd (yL h1)] at h;obtain⟨q,rfl⟩:=Int.eq_ofNat_of_zero_le h1.1
  cases hg:(fr L q).g with
  | true=>rw[ye (by exact hg)] at h;cases h
  | false=>exact⟨q,rfl,oaa,hg⟩
 ·rw[ye h1] at h;cases h
theorem xX{L:List Fr}(h:dR L k=0):gL L/\∃ q:Nat,k=q/\q<L.length/\(fr L q).g=false:=by
 unfold dR at h;by_cases h1:bS L=0
 ·rw[ye h1] at h;exact⟨xW.1 h1,DU h⟩
 ·rw[yd h1] at h;exact absurd h h1
def fV(L:List Fr)(k:Int):List Fr:=(List.range L.length).map fun i=>{ fr L i with g:=(fr L i).g || inF L i k }
theorem mH(L:List Fr)(k:Int):(fV L k).length=L.length:=by unfold fV;simp
theorem vD{L:List Fr}(h:i<L.length):fr (fV L k) i={ fr L i with g:=(fr L i).g || inF L i k }:=by
 rw[rZ (by rw[mH];exact h)];unfold fV;simp
theorem UU{L:List Fr}(R:gL L)(k:Int):gL (fV L k):=by
 refine⟨by rw[mH];exact R.few,fun i hi=>?_⟩;rw[mH] at hi;obtain⟨a1,a2,a3⟩:=pF.1 (R.ok i hi);rw[pF,vD hi];refine⟨a1,a2,fun h0=>?_⟩;dsimp only;obtain⟨q,E,F,D⟩:=R.up hi h0;rw[E,yk,vD oaa];refine⟨D.1,?_⟩;dsimp only;by_cases e:(i:Int)=k
 ·left;subst e;rw[UT hi,Bool.or_true]
 ·rw[DJ R hi e,E];rcases D.2 with h|h
  ·left;rw[h,Bool.true_or]
  ·rw[h]
   cases hin:inF L (q:Int) k with
   | true=>left;rw[Bool.or_true]
   | false=>right;rfl
def gM(L:List Fr)(k:Int):Nat:=L.countP (fun f=>decide (f.p=k) && !f.g)
theorem Jy{L:List Fr}{j:Nat}(k:Int)(h:j<L.length):gM (L.take (j+1)) k=gM (L.take j) k+(if (fr L j).p=k/\(fr L j).g=false then 1 else 0):=by
 unfold gM;rw[List.take_succ_eq_append_getElem h,List.countP_append,rZ h];by_cases h1:L[j].p=k
 ·cases hg:L[j].g <;> simp[hg,h1]
 ·simp[h1]
