/-
  x
-/
import Derived.Test.YtcbcpomacdngmaaGreatM19
import Derived.Deep.DeepCutAuto
namespace Go.Proofs.YtcbcpomacdngmaaGreat
set_option maxRecDepth 100000
set_option maxHeartbeats 4000000
set_option linter.unusedVariables false
open Go.RowKit Go.ChangeShapes Go.WideShapes
def zAs(L:Nat)(K:Nat->Value)(v:Value):Prop:=∀ i,i<L->∀ b,(K i).ownBlock=some b->v.ownBlock≠some b
theorem zxb{q:Nat}(h:q<=1000):(Lit.int .i64 (q:Int)).wf=true:=by
 unfold Lit.wf;simp[IntKind.min,IntKind.max,IntKind.signed,IntKind.bits];omega
theorem zmy(a:Option Addr)(c:Nat)(G:List Cl)(w:World)(hG:zdG G)(h0:0<G.length)(hN:G.length<=24)(c9:∀ i,i<G.length->(cl G i).ks.length<=8)(hS:zaF w a G) :
  yL 164 #[.agg #[.slice a G.length c],.int .i64 0] w fun e w' => ∃ v K,e=.returned (.agg #[v])/\Below w.heap.size w w' /\ zhX w.heap.size (zbw G) K v w' := by
 obtain⟨i0,i7,j3,j4,j5⟩:=info_parts zvT;have k3:=@run_makeMap Tryz.prog;have eg:=yJ Tryz.func180 (by kernel_rfl) rfl;have BR:Hid (∀ (v' : Value) (T' : List Int) (W:World),zio W (w.heap.size+5) (w.heap.size+4) (w.heap.size+2) (w.heap.size+3) 0 v' T' -> T'.length<100000->w.heap.size+5<=W.heap.size->Calls _ _ _ _ _):=fun v' T' W h1 h4 h5=>zmp _ _ _ _ 0 v' T' 0 W h1 (by decide) (by omega) h4 h5
 have CC:Hid (∀ (y:Nat),y<G.length->∀ (ka:Option Addr) (kc nn:Nat) (v' : Value) (T' : List Int) (W:World),zio W (w.heap.size+5) (w.heap.size+4) (w.heap.size+2) (w.heap.size+3) nn v' T' -> w.heap.size+5<=W.heap.size->nn<=1000->T'.length<=1000->(∀ W', Below w.heap.size W W' -> zal W' ka (cl G y).ks)->Calls _ _ _ _ _):=fun y hy ka kc nn v' T' W h1 h2 h3 h4 h5 =>
  zmx (cl G y) ka kc _ w.heap.size _ _ _ nn v' T' W h1 h2 (c9 y hy) h3 h4 (fun k hk=>by obtain⟨q,e,hq⟩:=hG y hy k hk;rw[e];exact zxb (by omega)) ⟨by omega,by omega,by omega⟩ h5
 have PL:Hid (∀ i,i<(bfs G i).length->∃ y:Nat,(bfs G i).getD i 0=y/\y<G.length):=fun i hi=>(zdj hG h0 i).2 _ (by rw[zae _ _ hi];exact List.getElem_mem hi);have SH:Hid (∀ i,(bfs G i).length<=G.length):=fun i=>zsi hG h0 i;have h9:Hid (∀ (i y:Nat),i<(bfs G i).length->(bfs G i).getD i 0=y->(zbw G).take (i+1)=(zbw G).take i++[⟨(cl G y).n,(cl G y).ks.map (at1 (bfs G (i+1)))⟩]):=fun i y h1 h2=>zsy hG h0 h1 h2;have i4:Hid (∀ (i y:Nat),i<(bfs G i).length->(bfs G i).getD i 0=y->brings (bfs G i) (cl G y).ks=bfs G (i+1)):=fun i y h1 h2=>by have:=zoY h1;rwa [h2,yi] at this
 have h8:Hid (∀ i,(bfs G i).length<=(bfs G (i+1)).length):=zzg G;have K8:Hid (∀ i,i<G.length->(cl G i).ks.length<=8):=c9;have CL:Hid ((zbw G).length=(reach G).length):=zfb h0;have e0:Hid (∀ i,¬ i<(bfs G i).length->bfs G i=reach G):=fun i h=>zsf hG h0 h;have g7:Hid (∀ i,i<(bfs G i).length->i<(reach G).length):=fun i h=>(zsg hG h0 h).1;have HS:Hid (zaF w a G):=hS;clear hS c9 hG;obtain⟨n,hn⟩:∃ n,G.length=n:=⟨_,rfl⟩;have HN:Hid (G.length=n):=hn;rw[hn] at h0 hN CC PL SH K8 |-;clear hn
 go_enter Tryz.func164,Tryz.ntmps164
 go_wp2_with fail
 refine ye (BR.out (.slice none 0 0) [] _ ?st (by simp) (by simp only[yr];omega)) ?_
 case st =>
  refine⟨?_,?_,?_,World.ownsRow_nil _ _ _ _⟩
  ·have:=yK ((((w.alloc (.cells #[.slice a n c] 47)).alloc (.cells #[.slice none 0 0] 47)).alloc (.cells #[.slice none 0 0] 48)).alloc (.map #[] 0)) (.cells #[.map (some (w.heap.size+3))] 220);simpa using this
  ·refine(Below.heap_alloc _ _ _ (by simp only[yr];omega)).trans ((Below.heap_alloc _ _ _ (by simp only[yr];omega)).trans ?_);have:=yK ((w.alloc (.cells #[.slice a n c] 47)).alloc (.cells #[.slice none 0 0] 47)) (.cells #[.slice none 0 0] 48);simpa using this
  ·have:=zcw.made Tryz.prog 3 (((w.alloc (.cells #[.slice a n c] 47)).alloc (.cells #[.slice none 0 0] 47)).alloc (.cells #[.slice none 0 0] 48));simp only[yr] at this;exact(this.kept (Below.heap_alloc _ _ _ (by simp only[yr];omega))).congr (fun kl _=>by unfold lk;split <;> rfl)
 rintro e w1 ⟨v1,rfl,e8,_,a9⟩;have j0:=a9.size;simp only[yr] at j0;have x0:w1.heap[w.heap.size]?=some (.cells #[.slice a n c] 47 (0,0)):=(a9.block _ (by simp only[yr];omega) (by rintro(e|e|e) <;> first|omega|cases e)).trans ((Below.heap_alloc _ _ _ (by simp only[yr];omega)).trans ((Below.heap_alloc _ _ _ (by simp only[yr];omega)).trans ((Below.heap_alloc _ _ _ (by simp only[yr];omega)).trans ((Below.heap_alloc _ _ _ (by simp only[yr];omega)).trans (yK w _)))));have x1:w1.heap[w.heap.size+1]?=some (.cells #[.slice none 0 0] 47 (0,0)):=(a9.block _ (by simp only[yr];omega) (by rintro(e|e|e) <;> first|omega|cases e)).trans ((Below.heap_alloc _ _ _ (by simp only[yr];omega)).trans ((Below.heap_alloc _ _ _ (by simp only[yr];omega)).trans ((Below.heap_alloc _ _ _ (by simp only[yr];omega)).trans (by have:=yK (w.alloc (.cells #[.slice a n c] 47)) (.cells #[.slice none 0 0] 47);simpa using this))));have e4:Hid (Below w.heap.size w w1):=((zam w _ _).trans ((((yk w.heap.size _).alloc (by simp only[yr];omega) _).alloc (by simp only[yr];omega) _).alloc (by simp only[yr];omega) _)).trans (a9.below (by simp only[yr];omega) (fun k hk=>by rcases hk with e|e|e <;> first|omega|cases e));have d8:Hid (zio w1 (w.heap.size+5) (w.heap.size+4) (w.heap.size+2) (w.heap.size+3) (1+8*0) v1 (bfs G 0)):=e8;clear e8 a9 BR
 go_wp2_with fail
 go_loopg [8,9] n (fun g s8 s9 wr=>∃ (i:Nat) (v' : Value) (K:Nat->Value),i<=n/\n-i<=g/\s9=.int .i64 i/\wr.heap[w.heap.size]?=some (.cells #[.slice a n c] 47 (0,0))/\wr.heap[w.heap.size+1]?=some (.cells #[.slice none 0 0] 47 (0,0))/\w.heap.size+5<=wr.heap.size/\i<=(bfs G i).length /\
   Hid (zio wr (w.heap.size+5) (w.heap.size+4) (w.heap.size+2) (w.heap.size+3) (1+8*i) v' (bfs G i))/\Hid (zhX (w.heap.size+5) ((zbw G).take i) K s8 wr)/\Hid (zAs i K v')/\Hid (Below w.heap.size w wr))
 case atStart=>exact⟨0,v1,fun _=>.slice none 0 0,by omega,by omega,rfl,x0,x1,by omega,Nat.zero_le _,d8,(show zhX (w.heap.size+5) [] _ _ w1 from ⟨World.ownsRow_nil _ _ _ _,fun i hi=>by cases hi⟩),(fun i hi=>absurd hi (yw _)),e4⟩
 case round =>
  obtain⟨i,v', KK,hi,hg,rfl,y0,y1,g0,i8,J,a7,c8,T⟩:=hrel;clear x0 x1 d8 e4;have b0:=zaI y0;obtain⟨ta,tc,hv,d5⟩:=zfJ J.out.own;subst hv;have b2:=zaI J.out.btE;have z0:=zau y0;have z2:=zau J.out.btE;obtain⟨ca,cc,j2,_⟩:=a7.out.cls;subst j2
  have U:((zbw G).take i).length=i:=by
   rw[List.length_take,CL.out];by_cases h:i<(bfs G i).length
   ·have:=g7.out i h;omega
   ·have e:=e0.out i h;rw[<- e];omega
  rw[U];have i3:=SH.out i;by_cases Z:i<(bfs G i).length
  ·obtain⟨y,hy,d7⟩:=PL.out i Z;obtain⟨tb,j6,et,g4⟩:=d5 i Z;subst et;rw[hy] at g4;obtain⟨gb,go,i5,c0,ka,kc,c1,e9⟩:=HS.out y (by rw[HN.out];exact d7);subst i5;have d0:=zab c0 T.out;have d1:=zab c1 T.out;have zt:=yd _ _ g4;have zg:=yd _ _ d0;have i9:(i:Int)<((bfs G i).length:Int):=(by omega);have j9:(y:Int)<(n:Int):=(by omega);have NX:Hid _:=h9.out i y Z hy;have ST:Hid _:=i4.out i y Z hy;have MO:=h8.out i;have b8:Hid (∀ W', Below w.heap.size wr.drew W' -> zal W' ka (cl G y).ks):=fun W' i6=>e9.below (T.out.drew.trans i6);have b4:Hid _:=CC.out y d7 ka kc (1+8*i) (.slice (some ⟨tb,j6,none⟩) (bfs G i).length tc) (bfs G i) wr.drew (J.out.kept (w' := wr.drew) (fun _ _ _=>rfl)) (by exact g0) (by omega) (by omega) b8.out;have k8:=K8.out y d7;clear d5 e9 c0 c1 hy;obtain⟨tl,b3⟩:∃ z,(bfs G i).length=z:=⟨_,rfl⟩;have k0:Hid ((bfs G i).length=tl):=b3;rw[b3] at Z i9 b2 b4 i3 i8 MO;have b7:Hid (zAs i KK (.slice (some ⟨tb,j6,none⟩) tl tc)):=(by have h:=c8.out;rw[b3] at h;exact h);have M:Hid (zio wr (w.heap.size+5) (w.heap.size+4) (w.heap.size+2) (w.heap.size+3) (1+8*i) (.slice (some ⟨tb,j6,none⟩) tl tc) (bfs G i)):=(by have h:=J.out;rw[b3] at h;exact h);have a8:Hid (zhX (w.heap.size+5) ((zbw G).take i) KK (.slice ca i cc) wr):=(by have h:=a7.out;rw[U] at h;exact h);have a6:Hid (((zbw G).take i).length=i):=U;clear b3 U c8 J a7;generalize (zbw G).take i=Li at *;generalize bfs G i=Ti at *;obtain⟨Tn,d4⟩:∃ z,bfs G (i+1)=z:=⟨_,rfl⟩;have e6:Hid (bfs G (i+1)=Tn):=d4;rw[d4] at NX ST MO;clear d4
   generalize cl G y=xy at *;obtain⟨xn,a5⟩:=xy;dsimp only at d0 d1 k8 b4 NX ST b8;obtain⟨xl,d6⟩:∃ z,a5.length=z:=⟨_,rfl⟩;have g9:Hid (a5.length=xl):=d6;rw[d6] at d1 k8 b4;clear d6
   go_wp2_with fail
   refine wp_region_noPanic ?_;refine wp_region_held_drew (S:=fun j7=>j7.cell? ⟨w.heap.size,0,none⟩=some (.slice (some ⟨gb,go,none⟩) n c)) (by kernel_rfl) (by(try dsimp only);go_keep) (fun hHeld=>?_);refine wpAnyH_take (i:=0) (v:=?_) rfl (by kernel_rfl) (by kernel_rfl) (by kernel_rfl) (fun _ _ _ h=>h) (Or.inl ⟨by rfl,?_⟩) (by assumption) ?_;rotate_left
   ·intro w D;(try dsimp only at D);first|(go_simp;done)|(go_simp;with_reducible rfl)
   simp[Act.put];refine wpAnyH_take (i:=1) (v:=?_) rfl (by kernel_rfl) (by kernel_rfl) (by kernel_rfl) (fun _ _ _ h=>h) (Or.inl ⟨by rfl,?_⟩) (by assumption) ?_;rotate_left
   ·intro w D;(try dsimp only at D);first|(go_simp;done)|(go_simp;with_reducible rfl)
   simp[Act.put];refine wpAnyH_take (i:=2) (v:=?_) rfl (by kernel_rfl) (by kernel_rfl) (by kernel_rfl) (fun _ _ _ h=>h) (Or.inl ⟨by rfl,?_⟩) (by assumption) ?_;rotate_left
   ·intro w D;(try dsimp only at D);first|(go_simp;done)|(go_simp;with_reducible rfl)
   simp[Act.put];refine wpAnyH_take (i:=4) (v:=?_) rfl (by kernel_rfl) (by kernel_rfl) (by kernel_rfl) (fun _ _ _ h=>h) (Or.inl ⟨by rfl,?_⟩) (by assumption) ?_;rotate_left
   ·intro w D;(try dsimp only at D);first|(go_simp;done)|(go_simp;with_reducible rfl)
   simp[Act.put];refine wpAnyH_take (i:=9) (v:=?_) rfl (by kernel_rfl) (by kernel_rfl) (by kernel_rfl) (fun _ _ _ h=>h) (Or.inl ⟨by rfl,?_⟩) (by assumption) ?_;rotate_left
   ·intro w D;(try dsimp only at D);first|(go_simp;done)|(go_simp;with_reducible rfl)
   simp[Act.put];refine wpAnyH_ready (rs:=[3]) (by kernel_rfl) (by simp) ?_;refine AllReadyH.cons rfl (fun K hK=>?_) AllReadyH.nil;go_simp;refine hK.out _ _ ?_ (fun hHeld=>?_)
   ·(try dsimp only)
    first|go_keep|assumption
   clear hK K
   try simp[Act.put]
   refine wpAnyH_take (i:=5) (v:=?_) rfl (by kernel_rfl) (by kernel_rfl) (by kernel_rfl) (fun _ _ _ h=>h) (Or.inl ⟨by rfl,?_⟩) (by assumption) ?_;rotate_left
   ·intro w D;(try dsimp only at D);first|(go_simp;done)|(go_simp;with_reducible rfl)
   simp[Act.put];refine wpAnyH_ready (rs:=[6]) (by kernel_rfl) (by simp) ?_;refine AllReadyH.cons rfl (fun K hK=>?_) AllReadyH.nil;go_simp;refine hK.out _ _ ?_ (fun hHeld=>?_)
   ·(try dsimp only)
    first|go_keep|assumption
   clear hK K
   try simp[Act.put]
   refine wpAnyH_take (i:=7) (v:=?_) rfl (by kernel_rfl) (by kernel_rfl) (by kernel_rfl) (fun _ _ _ h=>h) (Or.inl ⟨by rfl,?_⟩) (by assumption) ?_;rotate_left
   ·intro w D;(try dsimp only at D);first|(go_simp;done)|(go_simp;with_reducible rfl)
   simp[Act.put];refine wpAnyH_ready (rs:=[8]) (by kernel_rfl) (by simp) ?_;refine AllReadyH.cons rfl (fun K hK=>?_) AllReadyH.nil;go_simp;refine hK.out _ _ ?_ (fun hHeld=>?_)
   ·(try dsimp only)
    first|go_keep|assumption
   clear hK K
   try simp[Act.put]
   refine wpAnyH_ready (rs:=[10]) (by kernel_rfl) (by simp) ?_;refine AllReadyH.cons rfl (fun K hK=>?_) AllReadyH.nil;go_simp;refine ye b4.out ?_;rintro e w5 ⟨v5,kb,rfl,F,b9,I,k2,g5,b1⟩;have k4:wr.heap.size<=w5.heap.size:=I.size;have b6:w5.heap[w.heap.size]?=some (.cells #[.slice (some ⟨gb,go,none⟩) n c] 47 (0,0)):=(I.block _ (by exact z0) (by rintro(e|e|e) <;> first|omega|(have:=(M.out.own.lt _ e).1;omega))).trans y0;have e7:w5.heap[w.heap.size+1]?=some (.cells #[.slice none 0 0] 47 (0,0)):=(I.block _ (by exact zau y1) (by rintro(e|e|e) <;> first|omega|(have:=(M.out.own.lt _ e).1;omega))).trans y1;have t0:=zaI b6;have c7:Hid (Below w.heap.size w w5):=T.out.drew.trans (I.below T.out.size (fun k hk=>by rcases hk with e|e|e <;> first|omega|(have:=(M.out.own.lt k e).1;omega)))
   have b5:Hid (zhX (w.heap.size+5) Li KK (.slice ca i cc) w5):=(show zhX (w.heap.size+5) Li KK (.slice ca i cc) wr.drew from a8.out).kept (fun j h1 h2 h3=>I.block j h2 (by
    rintro(e|e|e)
    ·omega
    ·omega
    ·rcases h3 with h3 |⟨q,hq,h3⟩
     ·exact zei M.out.own a8.out.1 (by decide) j e h3
     ·exact b7.out q (by rw[<- a6.out];exact hq) j h3 e))
   have h6:Hid (zAs (i+1) (fun q=>if q=i then .slice (some ⟨kb,0,none⟩) xl xl else KK q) v5):=fun q hq b hb=>by
    by_cases eq:q=i
    ·subst eq;simp only[if_true] at hb;cases hb;exact g5
    ·simp only[ya eq] at hb;rcases b9 with e |⟨j,e,hj⟩
     ·rw[e];exact b7.out q (by omega) b hb
     ·rw[e];intro e2;cases e2;have:=((a8.out.2 q (by rw[a6.out];omega)).lt b hb).2;have k1:wr.heap.size<=b:=hj;omega
   have d9:Hid (zio w5 (w.heap.size+5) (w.heap.size+4) (w.heap.size+2) (w.heap.size+3) (1+8*(i+1)) v5 Tn):=by
    rw[ST.out] at F;exact⟨F.bmE,F.btE,F.mp.mono (by omega),F.own⟩
   have i2:Hid (w5.ownsRow (w.heap.size+5) 3 1 (.slice (some ⟨kb,0,none⟩) xl xl) (a5.map (at1 Tn)).length ((a5.map (at1 Tn)).map (Value.int .i64))):=by
    rw[ST.out] at b1;have h:=zaV b1 (B' := w.heap.size+5) (by exact g0);rw[List.length_map,g9.out];exact h
   clear F b9 I g5 b1
   go_wp2_with fail
   refine hK.out _ _ ?_ (fun hHeld=>?_)
   ·(try dsimp only)
    first|exact t0|go_keep
   clear hK K
   try simp[Act.put]
   refine wpAnyH_ready (rs:=[11]) (by kernel_rfl) (by simp) ?_;refine AllReadyH.cons rfl (fun K hK=>?_) AllReadyH.nil;go_simp;refine hK.out _ _ ?_ (fun hHeld=>?_)
   ·(try dsimp only)
    first|exact(zaa _ _).cell (by exact zau b6) |>.trans t0|go_keep
   clear hK K
   try simp[Act.put]
   refine wpAnyH_ready (rs:=[12]) (by kernel_rfl) (by simp) ?_;refine AllReadyH.cons rfl (fun K hK=>?_) AllReadyH.nil;refine ziw rfl (.tmp 21) (.tmp 32) 45 rfl (w.heap.size+5) 55 i0 (.agg #[.int .i64 0,.slice none 0 0]) 2 32 Tryz.underlying45 i7 j3 j4 j5 rfl (by decide) (.slice ca i cc) i (zkt Li KK) rfl ?own ⟨w5.heap.size,0,none⟩ 1 1 (zgJ ⟨xn,a5.map (at1 Tn)⟩ (.slice (some ⟨kb,0,none⟩) xl xl)) rfl rfl (zAA (by go_simp) (by go_simp)) zAS (by unfold maxLen;omega) (by omega) (by simp only[yr];omega) ?_
   case own=>exact(by have h:=b5.out.1;rw[a6.out] at h;exact h.alloc _)
   intro v6 w6 c6 E;have j1:=E.size;simp only[yr] at j1;have cb:=(b5.out.1).lt;have O:∀ j,j<w5.heap.size->(Value.slice ca i cc).ownBlock≠some j->w6.heap[j]?=w5.heap[j]?:=fun j h1 h2=>(E.block j (by simp only[yr];omega) (fun e=>h2 e.symm)).trans (Below.heap_alloc _ _ _ h1);have Y0:=(O _ (zau b6) (fun e=>by have:=(cb _ e).1;omega)).trans b6;have Y1:=(O _ (zau e7) (fun e=>by have:=(cb _ e).1;omega)).trans e7
   have i1:Hid (zhX (w.heap.size+5) ((zbw G).take (i+1)) (fun q=>if q=i then .slice (some ⟨kb,0,none⟩) xl xl else KK q) v6 w6):=by
    rw[NX.out];have h:=b5.out.step (s:=⟨xn,a5.map (at1 Tn)⟩) i2.out E (by rw[a6.out];exact c6);rw[a6.out] at h;exact h
   have g6:Hid (zio w6 (w.heap.size+5) (w.heap.size+4) (w.heap.size+2) (w.heap.size+3) (1+8*(i+1)) v5 Tn):=d9.out.kept (fun j hj hx=>O j hj (fun e=>by
    have:=(cb _ e).1;rcases hx with e2|e2|e2|e2
    ·omega
    ·omega
    ·omega
    ·exact zei d9.out.own b5.out.1 (by decide) j e2 e))
   have g8:Hid (Below w.heap.size w w6):=(c7.out.alloc (by have:=c7.out.size;omega) _).grown E (by have:=c7.out.size;simp;omega) (fun k hk=>by have:=(cb k hk).1;omega);have h7:Hid _:=h6;have t6:=zaI Y0;clear c6 E O cb;refine hK.out _ _ ?_ (fun hHeld=>?_)
   ·(try dsimp only)
    first|exact t6|go_keep
   clear hK K
   try simp[Act.put]
   refine wpAnyH_take (i:=13) (v:=?_) rfl (by kernel_rfl) (by kernel_rfl) (by kernel_rfl) (fun _ _ _ h=>h) (Or.inl ⟨by rfl,?_⟩) (by assumption) ?_;rotate_left
   ·intro w D;(try dsimp only at D);first|(go_simp;done)|(go_simp;with_reducible rfl)
   simp[Act.put];refine wpAnyH_done (by kernel_rfl) ?_ _;refine NoPanic.normal ?_
   go_wp2_with fail
   go_roundg (n-(i+1))
   case measure=>omega
   case rel=>exact⟨i+1,v5,_,by omega,by omega,by go_num,Y0,Y1,by omega,(by rw[e6.out];omega),(by rw[e6.out];exact g6),i1,h7,g8⟩
  ·have e1:=e0.out i Z
   have e2:(zbw G).take i=zbw G:=by
    rw[List.take_of_length_le];rw[CL.out,<- e1];omega
   have e3:Hid (∀ va,zhX w.heap.size (zbw G) KK (.slice ca i cc) (wr.setCell ⟨w.heap.size+1,0,none⟩ va)):=fun va=>by
    have h:=a7.out;rw[U,e2] at h;have h2:zhX w.heap.size (zbw G) KK (.slice ca i cc) wr:=⟨zaV h.1 (by omega),fun j hj=>zaV (h.2 j hj) (by omega)⟩;refine⟨zaJ h.1 (fun k hk=>ys _ _ _ _ ?_) |> fun z=>zaV z (by omega),fun j hj=>zaV (zaJ (h.2 j hj) (fun k hk=>ys _ _ _ _ ?_)) (by omega)⟩
    ·have:=(h.1.lt k hk).1;show k≠w.heap.size+1;omega
    ·have:=((h.2 j hj).lt k hk).1;show k≠w.heap.size+1;omega
   have q0:=zaI y1;have q1:=zaY (o:=0) y1;have j8:¬ (i:Int)<((bfs G i).length:Int):=(by omega);have r0:(wr.setCell ⟨w.heap.size+1,0,none⟩ (.slice ca i cc)).cell? ⟨w.heap.size+1,0,none⟩=some (.slice ca i cc):=World.cell?_setCell_same _ _ _ q0;have z3:w.heap.size+1<wr.heap.size:=(by omega);have e5:Hid (Below w.heap.size w (wr.setCell ⟨w.heap.size+1,0,none⟩ (.slice ca i cc))):=T.out.setCell (by show w.heap.size<=w.heap.size+1;omega) _;clear d5 e1 e2 U J a7 c8;generalize (bfs G i).length=tl at *
   go_wp2_with fail
   refine yv (v:=.agg #[.slice ca i cc]) (by simp[results,Tryz.results164,go_sem,r0]) rfl (by first|exact⟨_,KK,rfl,e5.out,e3.out _⟩|exact⟨_,rfl,e5.out,KK,e3.out _⟩)
def zrK(S T:List Nd)(P C I:Int)(hs:List (Int × Int))(E R:Int):Prop :=
 (E≠0/\R=E/\T=[]) \/
 ∃ pa D:Nat,P=pa/\C=D/\E=0/\S.length<=24/\pa<S.length/\D<S.length /\
  (ziU S D pa=false->R=6/\T=[]) /\
  (ziU S D pa=true->(∀ h ∈ hs,∃ q:Nat,h.1=q/\q<S.length) /\
   ((∃ h ∈ hs,(nd S h.1.toNat).p≠pa)->R=6/\T=[]) /\
   ((∀ h ∈ hs,(nd S h.1.toNat).p=pa)->R=0/\(∀ i,i<S.length->(nd S i).ks.length<=1000)/\T.length=S.length /\
    ((((D:Int),I) ∈ hs/\T=S) \/
    (((D:Int),I) ∉ hs/\pa≠D/\((nd S D).p = -1\/∃ F:Nat,F<S.length/\F≠D/\(nd S D).p=F) /\
     ∃ at' : Nat,atS (nd (leaveG S D) pa).ks hs=at' /\ at' <=(nd (leaveG S D) pa).ks.length/\T=zbo (leaveG S D) pa D at'))))
theorem zqG(a:Option Addr)(c:Nat)(S:List Nd)(P C I D:Int)(ha:Option Addr)(hc:Nat)(hs:List (Int × Int))(E R:Int)(T:List Nd)(w:World)(hN:S.length<=9223372036854775807)(hB:Big S)(hS:zah w a S)(hH:zaw w ha hs)(hm:hs.length<=1)(hE:zbd S ((P,I) ::(C,D) :: hs)=E)(hI:zrK S T P C D hs E R) :
  yL 192 #[.agg #[.slice a S.length c],.agg #[.int .i64 P,.int .i64 I],.agg #[.int .i64 C,.int .i64 D],.slice ha hs.length hc] w fun e w' => ∃ a' c', e=.returned (.tuple #[.agg #[.slice a' T.length c'],.int .i64 R])/\Below w.heap.size w w' /\ ∀ w3:World,(∀ b,w.heap.size<=b->w3.heap[b]?=w'.heap[b]?)->zah w3 a' T:=by
 have df:=fun(W:World) (b4:Option Addr) (g7:Nat) (hW:zah W a S) (n5:zaw W b4 ((P,I) ::(C,D) :: hs))=>zdq a c S b4 g7 ((P,I) ::(C,D) :: hs) W hN hB hW (by simp;omega) n5;rw[hE] at df;have DF:Hid (∀ (W:World) (b4:Option Addr) (g7:Nat),zah W a S->zaw W b4 ((P,I) ::(C,D) :: hs)->yL 185 #[.agg #[.slice a S.length c],.slice b4 (hs.length+2) g7] W fun e w' => e=.returned (.int .i64 E)/\Below W.heap.size W w'):=df;have HS:Hid (zah w a S):=hS;have HH:Hid (zaw w ha hs):=hH;obtain⟨i0,n8,p1,p2,p3⟩:=info_parts zzG;clear hS hB df hE hH;obtain⟨m,g8⟩:∃ m,hs.length=m:=⟨_,rfl⟩;have HM:Hid (hs.length=m):=g8;rw[g8] at hm DF |-;have o6:¬ (1:Int)<(m:Int):=by omega
 have q2:decide ((1:Int)<(m:Int))=false:=yE o6;obtain⟨n,hn⟩:∃ n,S.length=n:=⟨_,rfl⟩;have HN:Hid (S.length=n):=hn;clear g8;have HC:Hid (zrK S T P C D hs E R):=hI;rw[hn] at hN DF |-;clear hn hI
 go_enter Tryz.func192,Tryz.ntmps192
 go_upto_region 3 with fail
 obtain⟨W4,d7⟩:∃ W4,W4=((((w.alloc (.cells #[.slice a n c] 43)).alloc (.cells #[.int .i64 P,.int .i64 I] 61)).alloc (.cells #[.int .i64 C,.int .i64 D] 61)).alloc (.cells #[.slice none 0 0] 43)):=⟨_,rfl⟩;rw[<- d7];have d8:Below (w.heap.size+1+1+1+1) ((((w.alloc (.cells #[.slice a n c] 43)).alloc (.cells #[.int .i64 P,.int .i64 I] 61)).alloc (.cells #[.int .i64 C,.int .i64 D] 61)).alloc (.cells #[.slice none 0 0] 43)) W4:=by rw[d7];exact yk _ _
 obtain⟨l0,l1,l2,l3,l4,l5,l6⟩:=zcp d8;have e6:W4.heap.size=w.heap.size+1+1+1+1:=by rw[d7];simp
 have d4:Hid (Below w.heap.size w W4):=(zaH _ _ _ _ _).trans (d8.mono (by omega));have d5:Hid (Below (w.heap.size+1+1+1+1) ((((w.alloc (.cells #[.slice a n c] 43)).alloc (.cells #[.int .i64 P,.int .i64 I] 61)).alloc (.cells #[.int .i64 C,.int .i64 D] 61)).alloc (.cells #[.slice none 0 0] 43)) W4):=d8;clear d7 d8
 go_cut [10] (fun s11 wx=>s11=.int .i64 E/\Hid (Below (w.heap.size+1+1+1+1) ((((w.alloc (.cells #[.slice a n c] 43)).alloc (.cells #[.int .i64 P,.int .i64 I] 61)).alloc (.cells #[.int .i64 C,.int .i64 D] 61)).alloc (.cells #[.slice none 0 0] 43)) wx))
 case first =>
  have q9:=World.new_ne W4 _ l0;have r0:=World.new_ne W4 _ l1;have r4:=World.new_ne W4 _ l2;have r5:=World.new_ne W4 _ l3;have r6:=World.new_ne W4 _ l4
  cases hs with
  | nil =>
   have e0:m=0:=HM.out.symm;subst e0
   cases ha with
   | none =>
    go_region_held3 (fun M=>M.cell? ⟨w.heap.size,0,none⟩=some (.slice a n c)/\M.cell? ⟨w.heap.size+1,0,none⟩=some (.int .i64 P)/\M.cell? ⟨w.heap.size+1,1,none⟩=some (.int .i64 I)/\M.cell? ⟨w.heap.size+1+1,0,none⟩=some (.int .i64 C)/\M.cell? ⟨w.heap.size+1+1,1,none⟩=some (.int .i64 D)) (go_keep) (first|(go_at_call 185;refine(DF.out _ _ 2 (HS.out.below (d4.out.alloc (by omega) _).drew) (zmL _ _ _ _ _ _ (by go_simp) (by go_simp) (by go_simp) (by go_simp))).mono ?_;rintro e w6 ⟨rfl,b5⟩;have U:Below (w.heap.size+1+1+1+1) ((((w.alloc (.cells #[.slice a n c] 43)).alloc (.cells #[.int .i64 P,.int .i64 I] 61)).alloc (.cells #[.int .i64 C,.int .i64 D] 61)).alloc (.cells #[.slice none 0 0] 43)) w6:=(d5.out.alloc (by omega) _).drew.trans (b5.mono (by simp;omega));obtain⟨m0,m1,m2,m3,m4,m5,m6⟩:=zcp U;have H6:Hid (Below (w.heap.size+1+1+1+1) ((((w.alloc (.cells #[.slice a n c] 43)).alloc (.cells #[.int .i64 P,.int .i64 I] 61)).alloc (.cells #[.int .i64 C,.int .i64 D] 61)).alloc (.cells #[.slice none 0 0] 43)) w6):=U;clear b5 U))
    go_wp2_with fail
    go_meet
    case rel=>exact⟨rfl,H6⟩
   | some A0 =>
    go_region_held3 (fun M=>M.cell? ⟨w.heap.size,0,none⟩=some (.slice a n c)/\M.cell? ⟨w.heap.size+1,0,none⟩=some (.int .i64 P)/\M.cell? ⟨w.heap.size+1,1,none⟩=some (.int .i64 I)/\M.cell? ⟨w.heap.size+1+1,0,none⟩=some (.int .i64 C)/\M.cell? ⟨w.heap.size+1+1,1,none⟩=some (.int .i64 D)) (go_keep) (first|(go_at_call 185;refine(DF.out _ _ 2 (HS.out.below (d4.out.alloc (by omega) _).drew) (zmL _ _ _ _ _ _ (by go_simp) (by go_simp) (by go_simp) (by go_simp))).mono ?_;rintro e w6 ⟨rfl,b5⟩;have U:Below (w.heap.size+1+1+1+1) ((((w.alloc (.cells #[.slice a n c] 43)).alloc (.cells #[.int .i64 P,.int .i64 I] 61)).alloc (.cells #[.int .i64 C,.int .i64 D] 61)).alloc (.cells #[.slice none 0 0] 43)) w6:=(d5.out.alloc (by omega) _).drew.trans (b5.mono (by simp;omega));obtain⟨m0,m1,m2,m3,m4,m5,m6⟩:=zcp U;have H6:Hid (Below (w.heap.size+1+1+1+1) ((((w.alloc (.cells #[.slice a n c] 43)).alloc (.cells #[.int .i64 P,.int .i64 I] 61)).alloc (.cells #[.int .i64 C,.int .i64 D] 61)).alloc (.cells #[.slice none 0 0] 43)) w6):=U;clear b5 U))
    go_wp2_with fail
    go_meet
    case rel=>exact⟨rfl,H6⟩
  | cons h t =>
   have e0:t=[]/\m=1:=by
    have h1:=HM.out;rw[List.length_cons] at h1;exact⟨List.length_eq_zero_iff.1 (by omega),by omega⟩
   obtain⟨e0,e1⟩:=e0;subst e0;subst e1;obtain⟨Q,qu⟩:=h;obtain⟨a7,a8,eh,_,_⟩:=HH.out 0 (by simp);subst eh
   have HC:Hid (∀ W,zaw W (some ⟨a7,a8,none⟩) [(Q,qu)]->W.cell? ⟨a7,a8,none⟩=some (.int .i64 Q)/\W.cell? ⟨a7,a8+1,none⟩=some (.int .i64 qu)):=fun W hW=>by
    obtain⟨b,o,e,h1,h2⟩:=hW 0 (by simp);cases e;exact⟨by simpa using h1,by simpa using h2⟩
   have e9:Hid (∀ b,some (⟨w.heap.size+1+1+1+1,0,none⟩:Addr)=some b->∀ j u,([.int .i64 P,.int .i64 I,.int .i64 C,.int .i64 D]:List Value)[j]?=some u->((W4.alloc (.cells #[.int .i64 P,.int .i64 I,.int .i64 C,.int .i64 D] 61)).drew).cell? (b.add j)=some u):=fun b hb j u hj=>by
    cases hb;rw[Addr.add_lit,<- e6]
    match j,hj with
    | 0,hj=>cases hj;go_simp
    | 1,hj=>cases hj;go_simp
    | 2,hj=>cases hj;go_simp
    | 3,hj=>cases hj;go_simp
   have j7:Hid (∀ j u,([.int .i64 Q,.int .i64 qu]:List Value)[j]?=some u->((W4.alloc (.cells #[.int .i64 P,.int .i64 I,.int .i64 C,.int .i64 D] 61)).drew).cell? ((⟨a7,a8,none⟩:Addr).add j)=some u):=fun j u hj=>by
    obtain⟨c0,c1⟩:=HC.out _ (HH.out.below (d4.out.alloc (by omega) (.cells #[.int .i64 P,.int .i64 I,.int .i64 C,.int .i64 D] 61)).drew);rw[Addr.add_lit]
    match j,hj with
    | 0,hj=>cases hj;exact c0
    | 1,hj=>cases hj;exact c1
   go_region_held3 (fun M=>M.cell? ⟨w.heap.size,0,none⟩=some (.slice a n c)/\M.cell? ⟨w.heap.size+1,0,none⟩=some (.int .i64 P)/\M.cell? ⟨w.heap.size+1,1,none⟩=some (.int .i64 I)/\M.cell? ⟨w.heap.size+1+1,0,none⟩=some (.int .i64 C)/\M.cell? ⟨w.heap.size+1+1,1,none⟩=some (.int .i64 D)) (go_keep) (first
    |(refine step_append_grows rfl (.tmp 21) (.tmp 22) 44 rfl 61 i0 (.agg #[.int .i64 0,.int .i64 0]) 2 16 Tryz.underlying44 n8 p1 p2 p3 rfl (by decide) (some ⟨w.heap.size+1+1+1+1,0,none⟩) 2 2 [.int .i64 P,.int .i64 I,.int .i64 C,.int .i64 D] rfl (fun h=>by cases h) rfl e9.out ⟨a7,a8,none⟩ 1 hc [.int .i64 Q,.int .i64 qu] rfl rfl j7.out (by intro u hu;simp at hu;rcases hu with rfl|rfl <;> rfl) (by decide) (by decide) (by decide) ?_;intro v5 w5 c7 b0;have U:Below (w.heap.size+1+1+1+1) ((((w.alloc (.cells #[.slice a n c] 43)).alloc (.cells #[.int .i64 P,.int .i64 I] 61)).alloc (.cells #[.int .i64 C,.int .i64 D] 61)).alloc (.cells #[.slice none 0 0] 43)) w5:=(d5.out.alloc (by omega) _).drew.grown b0 (by simp;omega) (fun k hk=>by cases hk);obtain⟨k0,k1,k2,k3,k4,k5,k6⟩:=zcp U;obtain⟨n7,p6,p0,l8⟩:=zta c7;subst p0;have n2:Hid (zaw w5 n7 [(P,I),(C,D),(Q,qu)]):=l8;have H5:Hid (Below (w.heap.size+1+1+1+1) ((((w.alloc (.cells #[.slice a n c] 43)).alloc (.cells #[.int .i64 P,.int .i64 I] 61)).alloc (.cells #[.int .i64 C,.int .i64 D] 61)).alloc (.cells #[.slice none 0 0] 43)) w5):=U;clear c7 b0 U l8)
    |(go_at_call 185;refine(DF.out _ _ _ (HS.out.below ((zaH _ _ _ _ _).trans (H5.out.mono (by omega)))) n2.out).mono ?_;rintro e w6 ⟨rfl,k8⟩;have m8:=H5.out.size;simp only[yr] at m8;have g4:Below (w.heap.size+1+1+1+1) ((((w.alloc (.cells #[.slice a n c] 43)).alloc (.cells #[.int .i64 P,.int .i64 I] 61)).alloc (.cells #[.int .i64 C,.int .i64 D] 61)).alloc (.cells #[.slice none 0 0] 43)) w6:=H5.out.trans (k8.mono m8);obtain⟨m0,m1,m2,m3,m4,m5,m6⟩:=zcp g4;have H6:Hid (Below (w.heap.size+1+1+1+1) ((((w.alloc (.cells #[.slice a n c] 43)).alloc (.cells #[.int .i64 P,.int .i64 I] 61)).alloc (.cells #[.int .i64 C,.int .i64 D] 61)).alloc (.cells #[.slice none 0 0] 43)) w6):=g4;clear k8 g4))
   go_wp2_with fail
   go_meet
   case rel=>exact⟨rfl,H6⟩
 case rest =>
 obtain⟨rfl,H6⟩:=hcut;clear l0 l1 l2 l3 l4 l5 l6 e6 d4 d5 DF;obtain⟨w6,rfl⟩:∃ W,W=wc:=⟨_,rfl⟩;obtain⟨m0,m1,m2,m3,m4,m5,m6⟩:=zcp H6.out;have n9:=HC.out;clear HC;rcases n9 with ⟨d6,hR,hT⟩ |⟨pa,O,rfl,rfl,d6,e3,hpa,hch,hX,hY⟩
 ·have hz:(E == 0)=false:=by simp[d6]
  have q8:decide (E=0)=false:=yE d6;have HR:Hid _:=hR;have HT:Hid (T=[]):=hT;clear hR hT
  go_wp2_with fail
  refine yv (v:=.tuple #[.agg #[.slice none 0 0],.int .i64 E]) (by simp[results,Tryz.results192,go_sem,m5]) rfl ⟨none,⟨0,by rw[HR.out,HT.out];rfl⟩,?_,fun w3 _=>by rw[HT.out];exact fun _ hi=>absurd hi (yw _)⟩;exact((zaH _ _ _ _ _).trans (H6.out.mono (by omega))).setCell (by simp;omega) _
 ·subst d6;have hX:Hid _:=hX;have hY:Hid _:=hY;clear hN;have hN:=e3;have b2:Hid _:=fun(W:World) (hW:zah W a S)=>zlw a c S O pa W (by omega) hch hW;clear e3;rw[HN.out] at hN hpa hch b2;have J:Below w.heap.size w w6:=(zaH _ _ _ _ _).trans (H6.out.mono (by omega));by_cases hfit:ziU S O pa=false
  ·rw[hfit] at b2;obtain⟨rfl,rfl⟩:=hX.out hfit;clear hX hY
   go_wp2_with (go_at_call 205;refine(b2.out _ (HS.out.below J)).mono ?_;rintro e w7 ⟨rfl,a5⟩;have Z:=H6.out.size;simp only[yr] at Z;have b1:Below (w.heap.size+1+1+1+1) ((((w.alloc (.cells #[.slice a n c] 43)).alloc (.cells #[.int .i64 (pa:Int),.int .i64 I] 61)).alloc (.cells #[.int .i64 (O:Int),.int .i64 D] 61)).alloc (.cells #[.slice none 0 0] 43)) w7:=H6.out.trans (a5.mono Z);obtain⟨j0,j1,j2,j3,j4,j5,j6⟩:=zcp b1;have H7:Hid (Below (w.heap.size+1+1+1+1) ((((w.alloc (.cells #[.slice a n c] 43)).alloc (.cells #[.int .i64 (pa:Int),.int .i64 I] 61)).alloc (.cells #[.int .i64 (O:Int),.int .i64 D] 61)).alloc (.cells #[.slice none 0 0] 43)) w7):=b1;clear a5 b1 Z)
   refine yv (v:=.tuple #[.agg #[.slice none 0 0],.int .i64 6]) (by simp[results,Tryz.results192,go_sem,j5]) rfl ⟨none,0,rfl,?_,fun _ _ _ hi=>absurd hi (yw _)⟩;exact((zaH _ _ _ _ _).trans (H7.out.mono (by omega))).setCell (by simp;omega) _
  ·have hfit:ziU S O pa=true:=(by simpa using hfit);rw[hfit] at b2;obtain⟨hQ,hA,hK⟩:=hY.out hfit;have g0:Hid _:=hQ;have HA:Hid _:=hA;have e8:Hid _:=hK;rw[HN.out] at g0;clear hfit hQ hA hK hY hX
   go_wp2_with (go_at_call 205;refine(b2.out _ (HS.out.below J)).mono ?_;rintro e w7 ⟨rfl,a5⟩;have Z:=H6.out.size;simp only[yr] at Z;have b1:Below (w.heap.size+1+1+1+1) ((((w.alloc (.cells #[.slice a n c] 43)).alloc (.cells #[.int .i64 (pa:Int),.int .i64 I] 61)).alloc (.cells #[.int .i64 (O:Int),.int .i64 D] 61)).alloc (.cells #[.slice none 0 0] 43)) w7:=H6.out.trans (a5.mono Z);have H7:Hid (Below (w.heap.size+1+1+1+1) ((((w.alloc (.cells #[.slice a n c] 43)).alloc (.cells #[.int .i64 (pa:Int),.int .i64 I] 61)).alloc (.cells #[.int .i64 (O:Int),.int .i64 D] 61)).alloc (.cells #[.slice none 0 0] 43)) w7):=b1;clear a5 b1 Z)
   clear m0 m1 m2 m3 m4 m5 m6 J
   go_loopg [39] 1 (fun g1 s39 wr=>∃ k:Nat,k<=m/\m-k<=g1/\s39=.int .i64 k/\Hid (Below (w.heap.size+1+1+1+1) ((((w.alloc (.cells #[.slice a n c] 43)).alloc (.cells #[.int .i64 (pa:Int),.int .i64 I] 61)).alloc (.cells #[.int .i64 (O:Int),.int .i64 D] 61)).alloc (.cells #[.slice none 0 0] 43)) wr)/\Hid (0<k->∀ h ∈ hs,(nd S h.1.toNat).p=pa))
   case atStart=>exact⟨0,by omega,by omega,rfl,H7,(fun h=>absurd h (Nat.lt_irrefl _):0<0->∀ h ∈ hs,(nd S h.1.toNat).p=pa)⟩
   case round =>
    clear H7;obtain⟨k,hk,p7,rfl,H6,A⟩:=hrel;have J:Below w.heap.size w wr:=(zaH _ _ _ _ _).trans (H6.out.mono (by omega));have Z:=H6.out.size;simp only[yr] at Z;obtain⟨j0,j1,j2,j3,j4,j5,j6⟩:=zcp H6.out;by_cases q1:k<m
    ·have o5:m=1:=(by omega);have o0:k=0:=(by omega);subst o0;subst o5
     obtain⟨h,c9⟩:∃ h,hs=[h]:=by
      cases hs with
      | nil=>exact absurd HM.out (by simp)
      | cons x t =>
       have h1:=HM.out;rw[List.length_cons] at h1;have ht:t=[]:=List.length_eq_zero_iff.1 (by omega);exact⟨x,by rw[ht]⟩
     obtain⟨q,g9,o8⟩:=g0.out h (by rw[c9];simp);obtain⟨a7,a8,eh,b7,e2⟩:=(HH.out.below J) 0 (by rw[c9];simp);rw[c9] at b7 e2;simp only[List.getD_cons_zero] at b7 e2;rw[g9] at b7;subst eh;have x0:wr.cell? ⟨a7,a8,none⟩=some (.int .i64 (q:Int)):=(by simpa using b7);have x1:wr.cell? ⟨a7,a8+1,none⟩=some (.int .i64 h.2):=(by simpa using e2);obtain⟨b,o,ea,_,_,_,_,qp,_⟩:=(HS.out.below J) q (by rw[HN.out];exact o8);subst ea;clear b7 e2 A;have q3:(q:Int)<(n:Int):=(by omega);have d9:=yd _ _ qp;have q7:=yd _ _ x0;have J0:=zcO j0;have J1:=zcO j1;have J5:=zcO j5;have q0:=yd _ _ j5;by_cases c8:(nd S q).p=(pa:Int)
     ·have NX:Hid (0<(1:Nat)->∀ h ∈ hs,(nd S h.1.toNat).p=pa):=fun _ h' hh=>by
       rw[c9,List.mem_singleton] at hh;rw[hh,g9,yi];exact c8
      rw[c8] at qp;have QQ:=zcO qp;clear c8
      go_wp2_with fail
      go_quiet (fail)
      go_wp2_with fail
      go_roundg 0
      case measure=>omega
      case rel=>exact⟨1,by omega,by omega,by go_num,Below.drewNs (H6.out.alloc (by omega) _) _,NX⟩
     ·obtain⟨rfl,rfl⟩:=HA.out ⟨h,by rw[c9];simp,by rw[g9,yi];exact c8⟩;clear e8 HA;generalize (nd S q).p=pq at *;have q4:(pq ==(pa:Int))=false:=beq_eq_false_iff_ne.2 c8;have QQ:=zcO qp
      go_wp2_with fail
      go_quiet (fail)
      go_wp2_with fail
      refine yv (v:=.tuple #[.agg #[.slice none 0 0],.int .i64 6]) (by simp[results,Tryz.results192,go_sem,J5]) rfl ⟨none,0,rfl,?_,fun _ _ _ hi=>absurd hi (yw _)⟩;exact(Below.drewNs (J.alloc J.size _) _).setCell (by simp;omega) _
    ·have o2:k=m:=by omega
     have m7:∀ h ∈ hs,(nd S h.1.toNat).p=pa:=by
      cases hs with
      | nil=>exact fun _ hh=>by cases hh
      | cons x t =>
       have:=HM.out;rw[List.length_cons] at this;exact A.out (by omega)
     subst o2;obtain⟨rfl,j8,m9,hK⟩:=e8.out m7;have i9:Hid (T.length=n):=(m9.trans HN.out:T.length=n);have DC:Hid _:=fun(W:World) (hW:zah W a S)=>copy_any a c S W (by rw[HN.out];exact hN) j8 hW;have DH:Hid _:=fun(W:World) (hW:zaw W ha hs)=>zit ha hc hs (O:Int) D W (by rw[HM.out];omega) hW
     have OC:Hid (∀ (wr:World) (B g:Nat) (kb kc:Nat->Nat),Own wr B g S kb kc S.length->B<=g/\g<wr.heap.size/\(∀ b,zAo g S.length kb b->g<=b/\b<wr.heap.size)):=fun wr B g kb kc h=>by
      obtain⟨hB,F,hF,n6,hg,_⟩:=h;refine⟨hB,hF.lt,fun b hb=>?_⟩;rcases hb with rfl |⟨i,hi,rfl⟩
      ·exact⟨yj _,hF.lt⟩
      ·exact⟨Nat.le_of_lt (hg i hi),(n6 i hi).row⟩
     obtain⟨bb,d9⟩:∃ bb,decide (((O:Int),D) ∈ hs)=bb:=⟨_,rfl⟩;have h7:Hid _:=d9;rw[d9,HM.out] at DH;rw[HN.out] at DC OC;have h9:Hid _:=hK;clear A m7 e8 HA hK j8 m9 d9 g0
     go_wp2_with fail
     refine(DC.out _ (HS.out.below J)).mono ?_;rintro e w7 ⟨g,kb,kc,rfl,a5,g5⟩;obtain⟨p8,p9,l7⟩:=OC.out _ _ _ _ _ g5;have HX:Hid (∀ b,zAo g n kb b->g<=b/\b<w7.heap.size):=l7;clear l7;have q5:=a5.size;have H7:Hid (Below (w.heap.size+1+1+1+1) ((((w.alloc (.cells #[.slice a n c] 43)).alloc (.cells #[.int .i64 (pa:Int),.int .i64 I] 61)).alloc (.cells #[.int .i64 (O:Int),.int .i64 D] 61)).alloc (.cells #[.slice none 0 0] 43)) w7):=H6.out.trans (a5.mono Z);have n3:Hid (Own w7 wr.heap.size g S kb kc n):=g5;obtain⟨i0,i1,i2,i3,i4,i5,i6⟩:=zcp H7.out;have M7:Hid (∀ w8 o1,Below (w7.heap.size+1) (w7.alloc o1) w8->Below (w.heap.size+1+1+1+1) ((((w.alloc (.cells #[.slice a n c] 43)).alloc (.cells #[.int .i64 (pa:Int),.int .i64 I] 61)).alloc (.cells #[.int .i64 (O:Int),.int .i64 D] 61)).alloc (.cells #[.slice none 0 0] 43)) w8/\Below w7.heap.size w7 w8):=fun w8 o1 h=>⟨(H7.out.alloc (by omega) o1).trans (h.mono (by omega)),((yk _ _).alloc (yj _) o1).trans (h.mono (by omega))⟩;have I3:=zcO i3;have I4:=zcO i4;clear j0 j1 j2 j3 j4 j5 j6 a5 g5
     go_wp2_with fail
     refine(DH.out _ (HH.out.below (((zaH _ _ _ _ _).trans (H7.out.mono (by omega))).alloc (by omega) _))).mono ?_;rintro e w8 ⟨rfl,b6⟩;simp only[yr] at b6;have b8:w8.cell? ⟨w7.heap.size,0,none⟩=some (.slice (some ⟨g,0,none⟩) n n):=znq b6;obtain⟨H8,k9⟩:=M7.out _ _ b6;have o9:=b6.size;simp only[yr] at o9;have h8:Hid (Below (w.heap.size+1+1+1+1) ((((w.alloc (.cells #[.slice a n c] 43)).alloc (.cells #[.int .i64 (pa:Int),.int .i64 I] 61)).alloc (.cells #[.int .i64 (O:Int),.int .i64 D] 61)).alloc (.cells #[.slice none 0 0] 43)) w8):=H8;have i8:Hid (Own w8 wr.heap.size g S kb kc n):=Own.below n3.out k9;clear i0 i1 i2 i3 i4 i5 i6 b6 I3 I4;obtain⟨i0,i1,i2,i3,i4,i5,i6⟩:=zcp H8;clear H8;have o4:=h9.out;clear h9;rcases o4 with ⟨c6,hT⟩ |⟨c6,o7,l9,at', k7,e4,hT⟩
     ·have g6:bb=true:=h7.out.symm.trans (yF c6);subst g6;have HT:Hid (T=S):=hT;clear c6 hT;have n1:Hid (Below w.heap.size w w8):=(zaH _ _ _ _ _).trans (h8.out.mono (by omega));have NS:Hid (∀ v (w3:World),(∀ b,g<=b->w3.heap[b]?=(w8.setCell ⟨w.heap.size+1+1+1,0,none⟩ v).heap[b]?)->zah w3 (some ⟨g,0,none⟩) S):=fun v w3 h4=>Own.up (kb:=kb) (kc:=kc) (B:=wr.heap.size) (by rw[HN.out];exact i8.out) _ (fun b hb=>(h4 b hb).trans (ys _ _ _ _ (by show b≠w.heap.size+1+1+1;omega)))
      go_wp2_with fail
      refine yv (v:=.tuple #[.agg #[.slice (some ⟨g,0,none⟩) n n],.int .i64 0]) (by simp[results,Tryz.results192,go_sem,i5]) rfl ⟨some ⟨g,0,none⟩,n,by rw[i9.out],n1.out.setCell (by simp;omega) _,fun w3 h3=>by rw[HT.out];exact NS.out _ w3 (fun b hb=>h3 b (by have:=J.size;omega))⟩
     ·have g6:bb=false:=h7.out.symm.trans (yE c6);subst g6;have HT:Hid (T=zbo (leaveG S O) pa O at'):=hT;have DE:Hid _:=fun(B g c:Nat) (kb kc:Nat->Nat) (W:World) (hO:Own W B g (leaveG S O) kb kc (leaveG S O).length) (hW:zaw W ha hs)=>zsG B g c (leaveG S O) kb kc pa O at' ha hc hs W hO (by rw[zbl,HN.out];exact hpa) (by rw[zbl,HN.out];exact hch) o7 (by rw[HM.out];exact hm) hW k7 e4;have DL:Hid _:=fun(B g c:Nat) (kb kc:Nat->Nat) (W:World) (hO:Own W B g S kb kc S.length)=>ztm B g c S kb kc O W hO (by rw[HN.out];exact hch) l9;simp only[zbl,HN.out,HM.out] at DE DL
      have OP:Hid (∀ g kb b,b=g\/b=kb pa->zAo g n kb b):=fun g kb b hb=>by
       rcases hb with hb|hb
       ·exact Or.inl hb
       ·exact Or.inr ⟨pa,hpa,hb⟩
      clear c6 hT l9 k7 e4
      go_wp2_with fail
      refine(DL.out _ g n kb kc _ i8.out).mono ?_;rintro e w9 ⟨rfl,a6,j9⟩;have q6:=a6.size;have b9:=(a6.cell (yd _ _ b8) (fun h=>by have:=HX.out _ h;simp at this)).trans b8;have H9:Below (w.heap.size+1+1+1+1) ((((w.alloc (.cells #[.slice a n c] 43)).alloc (.cells #[.int .i64 (pa:Int),.int .i64 I] 61)).alloc (.cells #[.int .i64 (O:Int),.int .i64 D] 61)).alloc (.cells #[.slice none 0 0] 43)) w9:=h8.out.trans (a6.below (by omega) (fun k hk=>by have:=HX.out _ hk;omega));have n4:Hid (Own w9 wr.heap.size g (leaveG S O) kb kc n):=j9;have e7:Hid (Below (w.heap.size+1+1+1+1) ((((w.alloc (.cells #[.slice a n c] 43)).alloc (.cells #[.int .i64 (pa:Int),.int .i64 I] 61)).alloc (.cells #[.int .i64 (O:Int),.int .i64 D] 61)).alloc (.cells #[.slice none 0 0] 43)) w9):=H9;clear i0 i1 i2 i3 i4 i5 i6 b8 a6 j9;obtain⟨i0,i1,i2,i3,i4,i5,i6⟩:=zcp H9;clear H9
      go_wp2_with fail
      refine(DE.out _ g n kb kc _ n4.out (HH.out.below ((zaH _ _ _ _ _).trans (e7.out.mono (by omega))))).mono ?_;rintro e n0 ⟨rfl,a9,e5⟩;have b3:∀ b,b=g\/b=kb pa->g<=b/\b<w7.heap.size:=fun b hb=>HX.out b (OP.out g kb b hb);have p5:=(a9.cell (yd _ _ b9) (fun h=>by have:=b3 _ h;simp at this)).trans b9;have p4:=(a9.cell (yd _ _ i5) (fun h=>by have:=b3 _ h;dsimp only at this;omega)).trans i5;have f10:=fun o=>(a9.frozen (p:=⟨w.heap.size+1+1+1,o,none⟩) (yd w9 ⟨w.heap.size+1+1+1,0,none⟩ i5) (fun h=>by have:=b3 _ h;dsimp only at this;omega)).trans (i6 o);have i7:Hid _:=e5;have h6:Hid (Below w.heap.size w n0):=((zaH _ _ _ _ _).trans (e7.out.mono (by omega))).trans (a9.below (by have:=e7.out.size;simp at this;omega) (fun k hk=>by have:=b3 _ hk;omega));have NS:Hid (∀ v (w3:World),(∀ b,g<=b->w3.heap[b]?=(n0.setCell ⟨w.heap.size+1+1+1,0,none⟩ v).heap[b]?)->zah w3 (some ⟨g,0,none⟩) (zbo (leaveG S O) pa O at')):=fun v w3 h4=>i7.out _ (fun b hb=>(h4 b hb).trans (ys _ _ _ _ (by show b≠w.heap.size+1+1+1;omega)));clear e5 a9 i0 i1 i2 i3 i4 i5 i6 b9 b3
      go_wp2_with fail
      refine yv (v:=.tuple #[.agg #[.slice (some ⟨g,0,none⟩) n n],.int .i64 0]) (by simp[results,Tryz.results192,go_sem,p4]) rfl ⟨some ⟨g,0,none⟩,n,by rw[i9.out],h6.out.setCell (by simp;omega) _,fun w3 h3=>by rw[HT.out];exact NS.out _ w3 (fun b hb=>h3 b (by have:=J.size;omega))⟩
end Go.Proofs.YtcbcpomacdngmaaGreat
