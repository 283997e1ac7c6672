/-
  x
-/
import Derived.Test.YtcbcpomacdngmaaGreatQ20
namespace Go.Proofs.YtcbcpomacdngmaaGreat
set_option maxRecDepth 100000
set_option maxHeartbeats 4000000
set_option linter.unusedVariables false
open Go.RowKit Go.ChangeShapes Go.WideShapes
def zAP(L:Nat)(K:Nat->Value)(v:Value):Prop:=∀ i,i<L->∀ b,(K i).ownBlock=some b->v.ownBlock≠some b
theorem zxj{q:Nat}(h:q<=1000):(Lit.int .i64 (q:Int)).wf=true:=by
 unfold Lit.wf;simp[IntKind.min,IntKind.max,IntKind.signed,IntKind.bits];omega
theorem zmH(a:Option Addr)(c:Nat)(G:List Cl)(w:World)(hG:zdy G)(h0:0<G.length)(hN:G.length<=24)(c9:∀ i,i<G.length->(cl G i).ks.length<=8)(hS:zaG w a G) :
  Calls Tryz.prog 164 #[.agg #[.slice a G.length c],.int .i64 0] w fun e w' => ∃ v K,e=.returned (.agg #[v])/\Below w.heap.size w w' /\ zgM w.heap.size (zbu G) K v w' := by
 obtain⟨i0,i7,j3,j4,j5⟩:=info_parts zwd;have k2:=@run_makeMap Tryz.prog;have eg:=enters_of Tryz.func180 (by kernel_rfl) rfl;have BR:Hid (∀ (v' : Value) (T' : List Int) (W:World),ziw W (w.heap.size+5) (w.heap.size+4) (w.heap.size+2) (w.heap.size+3) 0 v' T' -> T'.length<100000->w.heap.size+5<=W.heap.size->Calls _ _ _ _ _):=fun v' T' W h1 h4 h5=>zmy _ _ _ _ 0 v' T' 0 W h1 (by decide) (by omega) h4 h5
 have CC:Hid (∀ (y:Nat),y<G.length->∀ (ka:Option Addr) (kc nn:Nat) (v' : Value) (T' : List Int) (W:World),ziw W (w.heap.size+5) (w.heap.size+4) (w.heap.size+2) (w.heap.size+3) nn v' T' -> w.heap.size+5<=W.heap.size->nn<=1000->T'.length<=1000->(∀ W', Below w.heap.size W W' -> zaj W' ka (cl G y).ks)->Calls _ _ _ _ _):=fun y hy ka kc nn v' T' W h1 h2 h3 h4 h5 =>
  zmG (cl G y) ka kc _ w.heap.size _ _ _ nn v' T' W h1 h2 (c9 y hy) h3 h4 (fun k hk=>by obtain⟨q,e,hq⟩:=hG y hy k hk;rw[e];exact zxj (by omega)) ⟨by omega,by omega,by omega⟩ h5
 have PL:Hid (∀ i,i<(bfs G i).length->∃ y:Nat,(bfs G i).getD i 0=y/\y<G.length):=fun i hi=>(zde hG h0 i).2 _ (by rw[zae _ _ hi];exact List.getElem_mem hi);have SH:Hid (∀ i,(bfs G i).length<=G.length):=fun i=>zsB hG h0 i;have h9:Hid (∀ (i y:Nat),i<(bfs G i).length->(bfs G i).getD i 0=y->(zbu G).take (i+1)=(zbu G).take i++[⟨(cl G y).n,(cl G y).ks.map (at1 (bfs G (i+1)))⟩]):=fun i y h1 h2=>zsP hG h0 h1 h2;have i4:Hid (∀ (i y:Nat),i<(bfs G i).length->(bfs G i).getD i 0=y->brings (bfs G i) (cl G y).ks=bfs G (i+1)):=fun i y h1 h2=>by have:=zpt h1;rwa [h2,yi] at this
 have h8:Hid (∀ i,(bfs G i).length<=(bfs G (i+1)).length):=zzy G;have K8:Hid (∀ i,i<G.length->(cl G i).ks.length<=8):=c9;have CL:Hid ((zbu G).length=(reach G).length):=zfk h0;have e0:Hid (∀ i,¬ i<(bfs G i).length->bfs G i=reach G):=fun i h=>zsy hG h0 h;have g7:Hid (∀ i,i<(bfs G i).length->i<(reach G).length):=fun i h=>(zsz hG h0 h).1;have HS:Hid (zaG w a G):=hS;clear hS c9 hG;obtain⟨n,hn⟩:∃ n,G.length=n:=⟨_,rfl⟩;have HN:Hid (G.length=n):=hn;rw[hn] at h0 hN CC PL SH K8 |-;clear hn
 go_enter Tryz.func164,Tryz.ntmps164
 go_wp2_with fail
 refine ye (BR.out (.slice none 0 0) [] _ ?st (by simp) (by simp only[yr];omega)) ?_
 case st =>
  refine⟨?_,?_,?_,World.ownsRow_nil _ _ _ _⟩
  ·have:=heap_alloc_new ((((w.alloc (.cells #[.slice a n c] 47)).alloc (.cells #[.slice none 0 0] 47)).alloc (.cells #[.slice none 0 0] 48)).alloc (.map #[] 0)) (.cells #[.map (some (w.heap.size+3))] 220);simpa using this
  ·refine(Below.heap_alloc _ _ _ (by simp only[yr];omega)).trans ((Below.heap_alloc _ _ _ (by simp only[yr];omega)).trans ?_);have:=heap_alloc_new ((w.alloc (.cells #[.slice a n c] 47)).alloc (.cells #[.slice none 0 0] 47)) (.cells #[.slice none 0 0] 48);simpa using this
  ·have:=zcz.made Tryz.prog 3 (((w.alloc (.cells #[.slice a n c] 47)).alloc (.cells #[.slice none 0 0] 47)).alloc (.cells #[.slice none 0 0] 48));simp only[yr] at this;exact(this.kept (Below.heap_alloc _ _ _ (by simp only[yr];omega))).congr (fun kl _=>by unfold lk;split <;> rfl)
 rintro e w1 ⟨v1,rfl,e8,_,a9⟩;have j0:=a9.size;simp only[yr] at j0;have x0:w1.heap[w.heap.size]?=some (.cells #[.slice a n c] 47 (0,0)):=(a9.block _ (by simp only[yr];omega) (by rintro(e|e|e) <;> first|omega|cases e)).trans ((Below.heap_alloc _ _ _ (by simp only[yr];omega)).trans ((Below.heap_alloc _ _ _ (by simp only[yr];omega)).trans ((Below.heap_alloc _ _ _ (by simp only[yr];omega)).trans ((Below.heap_alloc _ _ _ (by simp only[yr];omega)).trans (heap_alloc_new w _)))));have x1:w1.heap[w.heap.size+1]?=some (.cells #[.slice none 0 0] 47 (0,0)):=(a9.block _ (by simp only[yr];omega) (by rintro(e|e|e) <;> first|omega|cases e)).trans ((Below.heap_alloc _ _ _ (by simp only[yr];omega)).trans ((Below.heap_alloc _ _ _ (by simp only[yr];omega)).trans ((Below.heap_alloc _ _ _ (by simp only[yr];omega)).trans (by have:=heap_alloc_new (w.alloc (.cells #[.slice a n c] 47)) (.cells #[.slice none 0 0] 47);simpa using this))));have e4:Hid (Below w.heap.size w w1):=((zam w _ _).trans ((((yk w.heap.size _).alloc (by simp only[yr];omega) _).alloc (by simp only[yr];omega) _).alloc (by simp only[yr];omega) _)).trans (a9.below (by simp only[yr];omega) (fun k hk=>by rcases hk with e|e|e <;> first|omega|cases e));have d8:Hid (ziw w1 (w.heap.size+5) (w.heap.size+4) (w.heap.size+2) (w.heap.size+3) (1+8*0) v1 (bfs G 0)):=e8;clear e8 a9 BR
 go_wp2_with fail
 go_loopg [8,9] n (fun g s8 s9 wr=>∃ (i:Nat) (v' : Value) (K:Nat->Value),i<=n/\n-i<=g/\s9=.int .i64 i/\wr.heap[w.heap.size]?=some (.cells #[.slice a n c] 47 (0,0))/\wr.heap[w.heap.size+1]?=some (.cells #[.slice none 0 0] 47 (0,0))/\w.heap.size+5<=wr.heap.size/\i<=(bfs G i).length /\
   Hid (ziw wr (w.heap.size+5) (w.heap.size+4) (w.heap.size+2) (w.heap.size+3) (1+8*i) v' (bfs G i))/\Hid (zgM (w.heap.size+5) ((zbu G).take i) K s8 wr)/\Hid (zAP i K v')/\Hid (Below w.heap.size w wr))
 case atStart=>exact⟨0,v1,fun _=>.slice none 0 0,by omega,by omega,rfl,x0,x1,by omega,Nat.zero_le _,d8,(show zgM (w.heap.size+5) [] _ _ w1 from ⟨World.ownsRow_nil _ _ _ _,fun i hi=>by cases hi⟩),(fun i hi=>absurd hi (yw _)),e4⟩
 case round =>
  obtain⟨i,v', KK,hi,hg,rfl,y0,y1,g0,i8,J,a7,c8,T⟩:=hrel;clear x0 x1 d8 e4;have b0:=zaJ y0;obtain⟨ta,tc,hv,d5⟩:=zeE J.out.own;subst hv;have b2:=zaJ J.out.btE;have z0:=zaw y0;have z2:=zaw J.out.btE;obtain⟨ca,cc,j2,_⟩:=a7.out.cls;subst j2
  have U:((zbu G).take i).length=i:=by
   rw[List.length_take,CL.out];by_cases h:i<(bfs G i).length
   ·have:=g7.out i h;omega
   ·have e:=e0.out i h;rw[<- e];omega
  rw[U];have i3:=SH.out i;by_cases Z:i<(bfs G i).length
  ·obtain⟨y,hy,d7⟩:=PL.out i Z;obtain⟨tb,to,et,g4⟩:=d5 i Z;subst et;rw[hy] at g4;obtain⟨gb,go,i5,c0,ka,kc,c1,e9⟩:=HS.out y (by rw[HN.out];exact d7);subst i5;have d0:=zab c0 T.out;have d1:=zab c1 T.out;have zt:=yd _ _ g4;have zg:=yd _ _ d0;have i9:(i:Int)<((bfs G i).length:Int):=by omega
   have j8:(y:Int)<(n:Int):=by omega
   have NX:Hid _:=h9.out i y Z hy;have ST:Hid _:=i4.out i y Z hy;have MO:=h8.out i;have b8:Hid (∀ W', Below w.heap.size wr.drew W' -> zaj W' ka (cl G y).ks):=fun W' i6=>e9.below (T.out.drew.trans i6);have b4:Hid _:=CC.out y d7 ka kc (1+8*i) (.slice (some ⟨tb,to,none⟩) (bfs G i).length tc) (bfs G i) wr.drew (J.out.kept (w' := wr.drew) (fun _ _ _=>rfl)) (by exact g0) (by omega) (by omega) b8.out;have k8:=K8.out y d7;clear d5 e9 c0 c1 hy;obtain⟨tl,b3⟩:∃ z,(bfs G i).length=z:=⟨_,rfl⟩;have j9:Hid ((bfs G i).length=tl):=b3;rw[b3] at Z i9 b2 b4 i3 i8 MO;have b7:Hid (zAP i KK (.slice (some ⟨tb,to,none⟩) tl tc)):=by have h:=c8.out;rw[b3] at h;exact h
   have M:Hid (ziw wr (w.heap.size+5) (w.heap.size+4) (w.heap.size+2) (w.heap.size+3) (1+8*i) (.slice (some ⟨tb,to,none⟩) tl tc) (bfs G i)):=by have h:=J.out;rw[b3] at h;exact h
   have a8:Hid (zgM (w.heap.size+5) ((zbu G).take i) KK (.slice ca i cc) wr):=by have h:=a7.out;rw[U] at h;exact h
   have a6:Hid (((zbu G).take i).length=i):=U;clear b3 U c8 J a7;generalize (zbu G).take i=Li at *;generalize bfs G i=Ti at *;obtain⟨Tn,d4⟩:∃ z,bfs G (i+1)=z:=⟨_,rfl⟩;have e6:Hid (bfs G (i+1)=Tn):=d4;rw[d4] at NX ST MO;clear d4;generalize cl G y=xy at *;obtain⟨xn,a5⟩:=xy;dsimp only at d0 d1 k8 b4 NX ST b8;obtain⟨xl,d6⟩:∃ z,a5.length=z:=⟨_,rfl⟩;have g9:Hid (a5.length=xl):=d6;rw[d6] at d1 k8 b4;clear d6
   go_wp2_with fail
   refine wp_region_noPanic ?_;refine wp_region_held_drew (S:=fun j6=>j6.cell? ⟨w.heap.size,0,none⟩=some (.slice (some ⟨gb,go,none⟩) n c)) (by kernel_rfl) (by(try dsimp only);go_keep) (fun hHeld=>?_);refine wpAnyH_take (i:=0) (v:=?_) rfl (by kernel_rfl) (by kernel_rfl) (by kernel_rfl) (fun _ _ _ h=>h) (Or.inl ⟨by rfl,?_⟩) (by assumption) ?_;rotate_left
   ·intro w D;(try dsimp only at D);first|(go_simp;done)|(go_simp;with_reducible rfl)
   simp[Act.put];refine wpAnyH_take (i:=1) (v:=?_) rfl (by kernel_rfl) (by kernel_rfl) (by kernel_rfl) (fun _ _ _ h=>h) (Or.inl ⟨by rfl,?_⟩) (by assumption) ?_;rotate_left
   ·intro w D;(try dsimp only at D);first|(go_simp;done)|(go_simp;with_reducible rfl)
   simp[Act.put];refine wpAnyH_take (i:=2) (v:=?_) rfl (by kernel_rfl) (by kernel_rfl) (by kernel_rfl) (fun _ _ _ h=>h) (Or.inl ⟨by rfl,?_⟩) (by assumption) ?_;rotate_left
   ·intro w D;(try dsimp only at D);first|(go_simp;done)|(go_simp;with_reducible rfl)
   simp[Act.put];refine wpAnyH_take (i:=4) (v:=?_) rfl (by kernel_rfl) (by kernel_rfl) (by kernel_rfl) (fun _ _ _ h=>h) (Or.inl ⟨by rfl,?_⟩) (by assumption) ?_;rotate_left
   ·intro w D;(try dsimp only at D);first|(go_simp;done)|(go_simp;with_reducible rfl)
   simp[Act.put];refine wpAnyH_take (i:=9) (v:=?_) rfl (by kernel_rfl) (by kernel_rfl) (by kernel_rfl) (fun _ _ _ h=>h) (Or.inl ⟨by rfl,?_⟩) (by assumption) ?_;rotate_left
   ·intro w D;(try dsimp only at D);first|(go_simp;done)|(go_simp;with_reducible rfl)
   simp[Act.put];refine wpAnyH_ready (rs:=[3]) (by kernel_rfl) (by simp) ?_;refine AllReadyH.cons rfl (fun K hK=>?_) AllReadyH.nil;go_simp;refine hK.out _ _ ?_ (fun hHeld=>?_)
   ·(try dsimp only)
    first|go_keep|assumption
   clear hK K
   try simp[Act.put]
   refine wpAnyH_take (i:=5) (v:=?_) rfl (by kernel_rfl) (by kernel_rfl) (by kernel_rfl) (fun _ _ _ h=>h) (Or.inl ⟨by rfl,?_⟩) (by assumption) ?_;rotate_left
   ·intro w D;(try dsimp only at D);first|(go_simp;done)|(go_simp;with_reducible rfl)
   simp[Act.put];refine wpAnyH_ready (rs:=[6]) (by kernel_rfl) (by simp) ?_;refine AllReadyH.cons rfl (fun K hK=>?_) AllReadyH.nil;go_simp;refine hK.out _ _ ?_ (fun hHeld=>?_)
   ·(try dsimp only)
    first|go_keep|assumption
   clear hK K
   try simp[Act.put]
   refine wpAnyH_take (i:=7) (v:=?_) rfl (by kernel_rfl) (by kernel_rfl) (by kernel_rfl) (fun _ _ _ h=>h) (Or.inl ⟨by rfl,?_⟩) (by assumption) ?_;rotate_left
   ·intro w D;(try dsimp only at D);first|(go_simp;done)|(go_simp;with_reducible rfl)
   simp[Act.put];refine wpAnyH_ready (rs:=[8]) (by kernel_rfl) (by simp) ?_;refine AllReadyH.cons rfl (fun K hK=>?_) AllReadyH.nil;go_simp;refine hK.out _ _ ?_ (fun hHeld=>?_)
   ·(try dsimp only)
    first|go_keep|assumption
   clear hK K
   try simp[Act.put]
   refine wpAnyH_ready (rs:=[10]) (by kernel_rfl) (by simp) ?_;refine AllReadyH.cons rfl (fun K hK=>?_) AllReadyH.nil;go_simp;refine ye b4.out ?_;rintro e w5 ⟨v5,kb,rfl,F,b9,I,k1,g5,b1⟩;have k3:wr.heap.size<=w5.heap.size:=I.size;have b6:w5.heap[w.heap.size]?=some (.cells #[.slice (some ⟨gb,go,none⟩) n c] 47 (0,0)):=(I.block _ (by exact z0) (by rintro(e|e|e) <;> first|omega|(have:=(M.out.own.lt _ e).1;omega))).trans y0;have e7:w5.heap[w.heap.size+1]?=some (.cells #[.slice none 0 0] 47 (0,0)):=(I.block _ (by exact zaw y1) (by rintro(e|e|e) <;> first|omega|(have:=(M.out.own.lt _ e).1;omega))).trans y1;have t0:=zaJ b6;have c7:Hid (Below w.heap.size w w5):=T.out.drew.trans (I.below T.out.size (fun k hk=>by rcases hk with e|e|e <;> first|omega|(have:=(M.out.own.lt k e).1;omega)))
   have b5:Hid (zgM (w.heap.size+5) Li KK (.slice ca i cc) w5):=(show zgM (w.heap.size+5) Li KK (.slice ca i cc) wr.drew from a8.out).kept (fun j h1 h2 h3=>I.block j h2 (by
    rintro(e|e|e)
    ·omega
    ·omega
    ·rcases h3 with h3 |⟨q,hq,h3⟩
     ·exact zcG M.out.own a8.out.1 (by decide) j e h3
     ·exact b7.out q (by rw[<- a6.out];exact hq) j h3 e))
   have h6:Hid (zAP (i+1) (fun q=>if q=i then .slice (some ⟨kb,0,none⟩) xl xl else KK q) v5):=fun q hq b hb=>by
    by_cases eq:q=i
    ·subst eq;simp only[if_true] at hb;cases hb;exact g5
    ·simp only[ya eq] at hb;rcases b9 with e |⟨j,e,hj⟩
     ·rw[e];exact b7.out q (by omega) b hb
     ·rw[e];intro e2;cases e2;have:=((a8.out.2 q (by rw[a6.out];omega)).lt b hb).2;have k0:wr.heap.size<=b:=hj;omega
   have d9:Hid (ziw w5 (w.heap.size+5) (w.heap.size+4) (w.heap.size+2) (w.heap.size+3) (1+8*(i+1)) v5 Tn):=by
    rw[ST.out] at F;exact⟨F.bmE,F.btE,F.mp.mono (by omega),F.own⟩
   have i2:Hid (w5.ownsRow (w.heap.size+5) 3 1 (.slice (some ⟨kb,0,none⟩) xl xl) (a5.map (at1 Tn)).length ((a5.map (at1 Tn)).map (Value.int .i64))):=by
    rw[ST.out] at b1;have h:=zaP b1 (B' := w.heap.size+5) (by exact g0);rw[List.length_map,g9.out];exact h
   clear F b9 I g5 b1
   go_wp2_with fail
   refine hK.out _ _ ?_ (fun hHeld=>?_)
   ·(try dsimp only)
    first|exact t0|go_keep
   clear hK K
   try simp[Act.put]
   refine wpAnyH_ready (rs:=[11]) (by kernel_rfl) (by simp) ?_;refine AllReadyH.cons rfl (fun K hK=>?_) AllReadyH.nil;go_simp;refine hK.out _ _ ?_ (fun hHeld=>?_)
   ·(try dsimp only)
    first|exact(zaa _ _).cell (by exact zaw b6) |>.trans t0|go_keep
   clear hK K
   try simp[Act.put]
   refine wpAnyH_ready (rs:=[12]) (by kernel_rfl) (by simp) ?_;refine AllReadyH.cons rfl (fun K hK=>?_) AllReadyH.nil;refine ziF rfl (.tmp 21) (.tmp 32) 45 rfl (w.heap.size+5) 55 i0 (.agg #[.int .i64 0,.slice none 0 0]) 2 32 Tryz.underlying45 i7 j3 j4 j5 rfl (by decide) (.slice ca i cc) i (zkD Li KK) rfl ?own ⟨w5.heap.size,0,none⟩ 1 1 (zgQ ⟨xn,a5.map (at1 Tn)⟩ (.slice (some ⟨kb,0,none⟩) xl xl)) rfl rfl (zAZ (by go_simp) (by go_simp)) zBq (by unfold maxLen;omega) (by omega) (by simp only[yr];omega) ?_
   case own=>exact(by have h:=b5.out.1;rw[a6.out] at h;exact h.alloc _)
   intro v6 w6 c6 E;have j1:=E.size;simp only[yr] at j1;have cb:=(b5.out.1).lt;have O:∀ j,j<w5.heap.size->(Value.slice ca i cc).ownBlock≠some j->w6.heap[j]?=w5.heap[j]?:=fun j h1 h2=>(E.block j (by simp only[yr];omega) (fun e=>h2 e.symm)).trans (Below.heap_alloc _ _ _ h1);have Y0:=(O _ (zaw b6) (fun e=>by have:=(cb _ e).1;omega)).trans b6;have Y1:=(O _ (zaw e7) (fun e=>by have:=(cb _ e).1;omega)).trans e7
   have i1:Hid (zgM (w.heap.size+5) ((zbu G).take (i+1)) (fun q=>if q=i then .slice (some ⟨kb,0,none⟩) xl xl else KK q) v6 w6):=by
    rw[NX.out];have h:=b5.out.step (s:=⟨xn,a5.map (at1 Tn)⟩) i2.out E (by rw[a6.out];exact c6);rw[a6.out] at h;exact h
   have g6:Hid (ziw w6 (w.heap.size+5) (w.heap.size+4) (w.heap.size+2) (w.heap.size+3) (1+8*(i+1)) v5 Tn):=d9.out.kept (fun j hj hx=>O j hj (fun e=>by
    have:=(cb _ e).1;rcases hx with e2|e2|e2|e2
    ·omega
    ·omega
    ·omega
    ·exact zcG d9.out.own b5.out.1 (by decide) j e2 e))
   have g8:Hid (Below w.heap.size w w6):=(c7.out.alloc (by have:=c7.out.size;omega) _).grown E (by have:=c7.out.size;simp;omega) (fun k hk=>by have:=(cb k hk).1;omega);have h7:Hid _:=h6;have t6:=zaJ Y0;clear c6 E O cb;refine hK.out _ _ ?_ (fun hHeld=>?_)
   ·(try dsimp only)
    first|exact t6|go_keep
   clear hK K
   try simp[Act.put]
   refine wpAnyH_take (i:=13) (v:=?_) rfl (by kernel_rfl) (by kernel_rfl) (by kernel_rfl) (fun _ _ _ h=>h) (Or.inl ⟨by rfl,?_⟩) (by assumption) ?_;rotate_left
   ·intro w D;(try dsimp only at D);first|(go_simp;done)|(go_simp;with_reducible rfl)
   simp[Act.put];refine wpAnyH_done (by kernel_rfl) ?_ _;refine NoPanic.normal ?_
   go_wp2_with fail
   go_roundg (n-(i+1))
   case measure=>omega
   case rel=>exact⟨i+1,v5,_,by omega,by omega,by go_num,Y0,Y1,by omega,(by rw[e6.out];omega),(by rw[e6.out];exact g6),i1,h7,g8⟩
  ·have e1:=e0.out i Z
   have e2:(zbu G).take i=zbu G:=by
    rw[List.take_of_length_le];rw[CL.out,<- e1];omega
   have e3:Hid (∀ va,zgM w.heap.size (zbu G) KK (.slice ca i cc) (wr.setCell ⟨w.heap.size+1,0,none⟩ va)):=fun va=>by
    have h:=a7.out;rw[U,e2] at h;have h2:zgM w.heap.size (zbu G) KK (.slice ca i cc) wr:=⟨zaP h.1 (by omega),fun j hj=>zaP (h.2 j hj) (by omega)⟩;refine⟨zau h.1 (fun k hk=>ys _ _ _ _ ?_) |> fun z=>zaP z (by omega),fun j hj=>zaP (zau (h.2 j hj) (fun k hk=>ys _ _ _ _ ?_)) (by omega)⟩
    ·have:=(h.1.lt k hk).1;show k≠w.heap.size+1;omega
    ·have:=((h.2 j hj).lt k hk).1;show k≠w.heap.size+1;omega
   have q0:=zaJ y1;have q1:=zaX (o:=0) y1;have j7:¬ (i:Int)<((bfs G i).length:Int):=by omega
   have r0:(wr.setCell ⟨w.heap.size+1,0,none⟩ (.slice ca i cc)).cell? ⟨w.heap.size+1,0,none⟩=some (.slice ca i cc):=World.cell?_setCell_same _ _ _ q0;have z3:w.heap.size+1<wr.heap.size:=by omega
   have e5:Hid (Below w.heap.size w (wr.setCell ⟨w.heap.size+1,0,none⟩ (.slice ca i cc))):=T.out.setCell (by show w.heap.size<=w.heap.size+1;omega) _;clear d5 e1 e2 U J a7 c8;generalize (bfs G i).length=tl at *
   go_wp2_with fail
   refine yv (v:=.agg #[.slice ca i cc]) (by simp[results,Tryz.results164,go_sem,r0]) rfl (by first|exact⟨_,KK,rfl,e5.out,e3.out _⟩|exact⟨_,rfl,e5.out,KK,e3.out _⟩)
theorem zhC{m:Nat}:∀ {l:List Cl},cellsE m l=0↔∀ x ∈ l,zfa m x=0
 | []=>by simp[cellsE]
 | x :: l=>by
  rw[cellsE];by_cases h:zfa m x=0
  ·rw[yb h,zhC];simp[h]
  ·rw[ya h];simp[h]
theorem zhz{m:Nat}{x:Cl}(h:zfa m x=0):(-1000000<=x.n/\x.n<=1000000)/\x.ks.length<=8/\∀ k ∈ x.ks,∃ q:Nat,k=q/\q<m:=by
 unfold zfa at h
 split at h
 ·omega
 ·rename_i h1
  split at h
  ·omega
  ·rename_i I
   split at h
   ·omega
   ·rename_i D;refine⟨by omega,by omega,fun k F=>?_⟩;simp only[List.any_eq_true,not_exists,not_and] at D;have E:=D k F;simp only[Bool.not_eq_true', decide_eq_false_iff_not,Decidable.not_not] at E;exact⟨k.toNat,by omega,by omega⟩
theorem zxY{m:Nat}{x:Cl}(h1:-1000000<=x.n/\x.n<=1000000)(F:x.ks.length<=8)(D:∀ k ∈ x.ks,∃ q:Nat,k=q/\q<m):zfa m x=0:=by
 unfold zfa;rw[ya (by omega),ya (by omega),ya];simp only[List.any_eq_true,not_exists,not_and];intro k E;obtain⟨q,e,I⟩:=D k E;simp only[Bool.not_eq_true', decide_eq_false_iff_not,Decidable.not_not];omega
structure Right (G:List Cl):Prop where
 few:G.length<=24
 range:∀ i,i<G.length->-1000000<=(cl G i).n/\(cl G i).n<=1000000
 kids8:∀ i,i<G.length->(cl G i).ks.length<=8
 kids:zdy G
theorem zbG{G:List Cl}:zav G=0↔Right G:=by
 unfold zav;constructor
 ·intro h
  split at h
  ·omega
  ·rename_i hl;have h1:=zhC.1 h;have D:∀ i,i<G.length->zfa G.length (cl G i)=0:=fun i hi=>h1 _ (by rw[zcq hi];exact List.getElem_mem hi);exact⟨by omega,fun i hi=>(zhz (D i hi)).1,fun i hi=>(zhz (D i hi)).2.1,fun i hi=>(zhz (D i hi)).2.2⟩
 ·intro h;rw[ya (by have:=h.few;omega),zhC];intro x E;obtain⟨i,hi,rfl⟩:=List.getElem_of_mem E;have:=zxY (m:=G.length) (h.range i hi) (h.kids8 i hi) (h.kids i hi)
  rwa [zcq hi] at this
theorem Right.copy{G:List Cl}(h:Right G):Right (zbu G):=by
 by_cases h0:G.length=0
 ·rw[zhE h0];exact⟨by simp,(fun i hi=>by cases hi),(fun i hi=>by cases hi),(fun i hi=>by cases hi)⟩
 ·have h0:0<G.length:=by omega
  have hl:=zfk h0;have F:=zuE h.kids h0
  have E:∀ i,i<(zbu G).length->∃ q:Nat,q<G.length/\cl (zbu G) i=zqB G (reach G) (q:Int):=fun i hi=>by
   rw[hl] at hi;obtain⟨q,e,D⟩:=(zio h.kids h0).2 ((reach G).getD i 0) (by rw[zae _ _ hi];exact List.getElem_mem hi);exact⟨q,D,by rw[zlC h0 hi,e]⟩
  refine⟨by have:=h.few;omega,fun i hi=>?_,fun i hi=>?_,zqF h.kids⟩
  ·obtain⟨q,D,e⟩:=E i hi;rw[e];have:=h.range q D;simpa [zqB] using this
  ·obtain⟨q,D,e⟩:=E i hi;rw[e];have:=h.kids8 q D;simpa [zqB] using this
theorem Right.big{G:List Cl}(h:Right G):zkz G:=fun i hi=>by have:=h.kids8 i hi;omega
def zzr(G:List Cl):List Cl:=if zav G=0 then zbu G else []
theorem zgM.nil(B:Nat)(w:World):zgM B [] (fun _=>.slice none 0 0) (.slice none 0 0) w:=⟨World.ownsRow_nil _ _ _ _,fun i hi=>by cases hi⟩
theorem ztg(a:Option Addr)(c:Nat)(G:List Cl)(w:World)(hN:G.length<=9223372036854775807)(hB:zkz G)(hS:zaG w a G) :
  Calls Tryz.prog 160 #[.agg #[.slice a G.length c]] w fun e w' => ∃ v,e=.returned (.tuple #[.agg #[v],.int .i64 (zav G)])/\Below w.heap.size w w' /\ ∃ K,zgM w.heap.size (zzr G) K v w' := by
 have D:Hid (∀ W,zaG W a G->Calls _ _ _ _ _):=fun W hW=>zfP a c G W hN hB hW;have HS:Hid (zaG w a G):=hS;have RF:Hid (zzr G=if zav G=0 then zbu G else []):=(rfl:zzr G=_);have CF:Hid (zav G=0->0<G.length->∀ W,zaG W a G->Calls _ _ _ _ _):=fun h1 h2 W hW=>zmH a c G W (zbG.1 h1).kids h2 (zbG.1 h1).few (zbG.1 h1).kids8 hW;have NO:Hid (G.length=0->zbu G=[]):=zhE;clear hS hB;generalize zzr G=R at *;generalize zav G=E at *;obtain⟨n,hn⟩:∃ n,G.length=n:=⟨_,rfl⟩;rw[hn] at hN D CF NO |-;clear hn;have O:(((w.alloc (.cells #[.slice a n c] 47)).alloc (.cells #[.slice none 0 0] 47)).frozen? ⟨w.heap.size+1,0,none⟩=false):=by go_simp
 go_enter Tryz.func160,Tryz.ntmps160
 go_wp2_with fail
 refine ye (D.out _ (HS.out.below (zam _ _ _))) ?_;rintro e U ⟨rfl,F⟩;have l0:=zab (zay w #[.slice a n c] 47 0 (.cells #[.slice none 0 0] 47) rfl) F;have T:=zab (zaz w #[.slice none 0 0] 47 0 (.cells #[.slice a n c] 47) rfl) F;have f1:=(F.frozen (p:=⟨w.heap.size+1,0,none⟩) (by simp)).trans O;have a9:=F.size;simp only[yr] at a9;have q1:w.heap.size+1<U.heap.size:=by omega
 have M:Hid (Below w.heap.size w U):=(zam w _ _).trans (F.mono (by simp;omega));have r0:∀ u v,(U.setCell ⟨w.heap.size+1,0,none⟩ u).cell? ⟨w.heap.size+1,0,none⟩=some v↔u=v:=fun u v=>by rw[World.cell?_setCell_same _ _ _ T];simp
 clear F D O;by_cases hE:E=0
 ·subst hE;have I:Hid (R=zbu G):=by show _=_;rw[RF.out,yb rfl]
  by_cases h0:n=0
  ·have a8:Hid (R=[]):=I.out.trans (NO.out h0);subst h0;have r1:(U.setCell ⟨w.heap.size+1,0,none⟩ (.slice none 0 0)).cell? ⟨w.heap.size+1,0,none⟩=some (.slice none 0 0):=World.cell?_setCell_same _ _ _ T;clear r0
   go_wp2_with fail
   refine yv (v:=.tuple #[.agg #[.slice none 0 0],.int .i64 0]) (by simp[results,Tryz.results160,go_sem,r1]) rfl ⟨_,rfl,M.out.setCell (by show w.heap.size<=w.heap.size+1;omega) _,_,(show zgM _ R _ _ _ by rw[a8.out];exact zgM.nil _ _)⟩
  ·have b0:decide ((n:Int)=0)=false:=decide_eq_false (by omega);have b1:((n:Int) == 0)=false:=by simp;omega
   have a5:Hid _:=CF.out rfl (by omega);clear r0
   go_wp2_with fail
   refine ye (a5.out _ (HS.out.below M.out)) ?_;rintro e Z ⟨v,K,rfl,F,J⟩;obtain⟨va,vc,hv,_⟩:=J.cls;subst hv;have m1:=zab T F;have g1:=(F.frozen (p:=⟨w.heap.size+1,0,none⟩) (by exact q1)).trans f1;have q2:w.heap.size+1<Z.heap.size:=yx q1 F.size;have r1:∀ u,(Z.setCell ⟨w.heap.size+1,0,none⟩ u).cell? ⟨w.heap.size+1,0,none⟩=some u:=fun u=>World.cell?_setCell_same _ _ _ m1;have a6:Hid (∀ u,Below w.heap.size w (Z.setCell ⟨w.heap.size+1,0,none⟩ u)):=fun u=>(M.out.trans (F.mono M.out.size)).setCell (by show w.heap.size<=w.heap.size+1;omega) _
   have a7:Hid (∀ u,zgM w.heap.size R K (.slice va (zbu G).length vc) (Z.setCell ⟨w.heap.size+1,0,none⟩ u)):=fun u=>by
    rw[I.out];have h1:=J.kept (w' := Z.setCell ⟨w.heap.size+1,0,none⟩ u) (fun j h1 _ _=>ys _ _ _ _ (by show j≠w.heap.size+1;omega));exact⟨zaP h1.1 (by omega),fun i hi=>zaP (h1.2 i hi) (by omega)⟩
   clear F J l0 T I RF NO;generalize (zbu G).length=m at *
   go_wp2_with fail
   refine yv (v:=.tuple #[.agg #[.slice va m vc],.int .i64 0]) (by simp[results,Tryz.results160,go_sem,r1]) rfl ⟨_,rfl,a6.out _,K,a7.out _⟩
 ·have I:Hid (R=[]):=by show _=_;rw[RF.out,ya hE]
  have e1:(E == 0)=false:=beq_eq_false_iff_ne.2 hE;have e2:decide (E=0)=false:=decide_eq_false hE;have r1:(U.setCell ⟨w.heap.size+1,0,none⟩ (.slice none 0 0)).cell? ⟨w.heap.size+1,0,none⟩=some (.slice none 0 0):=World.cell?_setCell_same _ _ _ T;clear r0
  go_wp2_with fail
  refine yv (v:=.tuple #[.agg #[.slice none 0 0],.int .i64 E]) (by simp[results,Tryz.results160,go_sem,r1]) rfl ⟨_,rfl,M.out.setCell (by show w.heap.size<=w.heap.size+1;omega) _,_,(show zgM _ R _ _ _ by rw[I.out];exact zgM.nil _ _)⟩
structure Pt where
 o:Int
 t:Int
 m:Int
 cm:List (List Cl)
 s:Bool
 deriving DecidableEq
def zxI:Pt:=⟨0,0,0,[],false⟩
def pt(L:List Pt)(i:Nat):Pt:=L.getD i zxI
theorem zfA{L:List Pt}{i:Nat}(h:i<L.length):pt L i=L[i]:=zae L zxI h
theorem zlZ{L M:List Pt}{i:Nat}(h:i<L.length):pt (L++M) i=pt L i:=by
 rw[zfA (by simp;omega),zfA h,List.getElem_append_left h]
theorem zuv(L:List Pt)(x:Pt):pt (L++[x]) L.length=x:=by
 rw[zfA (by simp)];simp
theorem zjE{L:List Pt}{k i:Nat}{x:Pt}(h:i<L.length):pt (L.set k x) i=if k=i then x else pt L i:=by
 rw[zfA (by simpa using h),List.getElem_set];split
 ·rfl
 ·rw[zfA h]
def gr(C:List (List Cl))(i:Nat):List Cl:=C.getD i []
theorem zhK{C:List (List Cl)}{i:Nat}(h:i<C.length):gr C i=C[i]:=zae C [] h
theorem zos{C D:List (List Cl)}{i:Nat}(h:i<C.length):gr (C++D) i=gr C i:=by
 rw[zhK (by simp;omega),zhK h,List.getElem_append_left h]
theorem zor(C:List (List Cl))(g:List Cl):gr (C++[g]) C.length=g:=by
 rw[zhK (by simp)];simp
theorem zoq(C:List (List Cl)){i:Nat}(h:i+1<C.length):gr (C.drop 1) i=gr C (i+1):=by
 rw[zhK (by simp;omega),zhK h];simp
def zbo:List (List Cl)->Int
 | []=>0
 | g :: l=>if zav g=0 then zbo l else zav g
def zdv(L:List Pt)(F:Int)(i:Nat):Int :=
 if ¬ (0<=(pt L i).o/\(pt L i).o<F)\/¬ (0<=(pt L i).m/\(pt L i).m<=(L.length:Int)-1) then 4
 else if (pt L i).m=i\/(pt L (pt L i).m.toNat).m≠i then 3
 else if ¬ (0<=(pt L i).t/\(pt L i).t<=1000) then 2
 else if 16<(pt L i).cm.length\/(0<(pt L i).cm.length/\(pt L i).s=true) then 1
 else zbo (pt L i).cm
def zoZ(L:List Pt)(F:Int):Nat->Nat->Int
 | _,0=>0
 | i,n+1=>if zdv L F i=0 then zoZ L F (i+1) n else zdv L F i
def zoY(L:List Pt)(F:Int)(i:Nat):Int:=zoZ L F i (L.length-i)
def zbd(L:List Pt)(F:Int):Int:=if 12<L.length then 1 else zoY L F 0
theorem zup{L:List Pt}{F:Int}{i:Nat}(h:i<L.length):zoY L F i=if zdv L F i=0 then zoY L F (i+1) else zdv L F i:=by
 unfold zoY;obtain⟨n,hn⟩:∃ n,L.length-i=n+1:=⟨L.length-i-1,by omega⟩;rw[hn,zoZ,show L.length-(i+1)=n by omega]
theorem zwG{L:List Pt}{F:Int}{i:Nat}(h:L.length<=i):zoY L F i=0:=by
 unfold zoY;rw[show L.length-i=0 by omega,zoZ]
structure zdn (L:List Pt) (F:Int):Prop where
 few:L.length<=12
 ok:∀ i,i<L.length->zdv L F i=0
theorem zkY{L:List Pt}{F:Int}:∀ n i,zoZ L F i n=0↔∀ j,i<=j->j<i+n->zdv L F j=0
 | 0,i=>by simp[zoZ];omega
 | n+1,i=>by
  rw[zoZ];by_cases h:zdv L F i=0
  ·rw[yb h,zkY n (i+1)];constructor
   ·intro H j h1 D;by_cases e:j=i
    ·rw[e];exact h
    ·exact H j (by omega) (by omega)
   ·intro H j h1 D;exact H j (by omega) (by omega)
  ·rw[ya h];constructor
   ·intro H;exact absurd H h
   ·intro H;exact H i (yj _) (by omega)
theorem zcH{L:List Pt}{F:Int}:zbd L F=0↔zdn L F:=by
 unfold zbd zoY;by_cases h:12<L.length
 ·rw[yb h];exact⟨fun e=>by omega,fun R=>absurd R.few (by omega)⟩
 ·rw[ya h,zkY];exact⟨fun H=>⟨by omega,fun i hi=>H i (by omega) (by omega)⟩,fun R j _ D=>R.ok j (by omega)⟩
theorem zci:∀ {C:List (List Cl)},zbo C=0↔∀ i,i<C.length->Right (gr C i)
 | []=>by simp[zbo]
 | g :: l=>by
  rw[zbo];by_cases h:zav g=0
  ·rw[yb h,zci];constructor
   ·intro H i hi
    cases i with
    | zero=>exact zbG.1 h
    | succ i=>exact H i (by simpa using hi)
   ·intro H i hi;exact H (i+1) (by simpa using hi)
  ·rw[ya h];constructor
   ·intro H;exact absurd H h
   ·intro H;exact zbG.2 (H 0 (by simp))
theorem zbm{L:List Pt}{F:Int}{i:Nat}:zdv L F i=0↔(0<=(pt L i).o/\(pt L i).o<F)/\(0<=(pt L i).m/\(pt L i).m<=(L.length:Int)-1)/\((pt L i).m≠i/\(pt L (pt L i).m.toNat).m=i)/\(0<=(pt L i).t/\(pt L i).t<=1000)/\((pt L i).cm.length<=16/\((pt L i).s=true->(pt L i).cm.length=0))/\zbo (pt L i).cm=0:=by
 unfold zdv;by_cases h1:¬ (0<=(pt L i).o/\(pt L i).o<F)\/¬ (0<=(pt L i).m/\(pt L i).m<=(L.length:Int)-1)
 ·rw[yb h1];exact⟨fun e=>by omega,fun⟨a,b,_⟩=>by rcases h1 with h|h;exact absurd a h;exact absurd b h⟩
 ·rw[ya h1];have J:0<=(pt L i).o/\(pt L i).o<F:=Classical.byContradiction fun h=>h1 (Or.inl h);have M:0<=(pt L i).m/\(pt L i).m<=(L.length:Int)-1:=Classical.byContradiction fun h=>h1 (Or.inr h);by_cases D:(pt L i).m=i\/(pt L (pt L i).m.toNat).m≠i
  ·rw[yb D];exact⟨fun e=>by omega,fun⟨_,_,c,_⟩=>by rcases D with h|h;exact absurd h c.1;exact absurd c.2 h⟩
  ·rw[ya D];have O:(pt L i).m≠i:=fun h=>D (Or.inl h);have T:(pt L (pt L i).m.toNat).m=i:=Classical.byContradiction fun h=>D (Or.inr h);by_cases I:0<=(pt L i).t/\(pt L i).t<=1000
   ·rw[ya (not_not_intro I)];by_cases E:16<(pt L i).cm.length\/(0<(pt L i).cm.length/\(pt L i).s=true)
    ·rw[yb E];refine⟨fun e=>by omega,fun⟨_,_,_,_,e,_⟩=>?_⟩;rcases E with h|h
     ·omega
     ·have:=e.2 h.2;omega
    ·rw[ya E]
     have U:(pt L i).cm.length<=16:=by
      by_cases h:16<(pt L i).cm.length
      ·exact absurd (Or.inl h) E
      ·omega
     have Z:(pt L i).s=true->(pt L i).cm.length=0:=fun hs=>by
      by_cases h:0<(pt L i).cm.length
      ·exact absurd (Or.inr ⟨h,hs⟩) E
      ·omega
     exact⟨fun e=>⟨J,M,⟨O,T⟩,I,⟨U,Z⟩,e⟩,fun h=>h.2.2.2.2.2⟩
   ·rw[yb I];exact⟨fun e=>by omega,fun⟨_,_,_,d,_⟩=>absurd d I⟩
def zfb(L:List Pt)(F o t:Int):Int:=if zbd L F≠0 then zbd L F else if ¬ (0<=o/\o<F) then 4 else if ¬ (0<=t/\t<=1000) then 2 else if 10<L.length then 1 else 0
def zcx(L:List Pt)(o t:Int):List Pt:=L++[⟨o,t,(L.length:Int)+1,[],false⟩,⟨o,t,(L.length:Int),[],false⟩]
def zmb(L:List Pt)(F o t:Int):List Pt:=if zfb L F o t=0 then zcx L o t else []
def ziD(L:List Pt)(F o t:Int):Int:=if zfb L F o t=0 then (L.length:Int) else 0
def zaT(L:List Pt)(F k o t:Int):Int:=if zbd L F≠0 then zbd L F else if ¬ (0<=k/\k<(L.length:Int)) then 4 else if (pt L k.toNat).o≠o\/(pt L k.toNat).t≠t then 7 else if (pt L k.toNat).s=true then 5 else 0
def zjA(L:List Pt)(F k o t D th:Int):Int:=if zaT L F k o t≠0 then zaT L F k o t else if ¬ (0<=D/\D<F) then 4 else if ¬ (0<=th/\th<=1000) then 2 else 0
def zhQ(L:List Pt)(k D th:Int):List Pt:=L.set k.toNat { pt L k.toNat with o:=D,t:=th }
def zeK(L:List Pt)(F k o t D th:Int):List Pt:=if zjA L F k o t D th=0 then zhQ L k D th else []
def zku(L:List Pt)(k:Int):Pt:=pt L (pt L k.toNat).m.toNat
def zhl(L:List Pt)(F k o t:Int)(g:List Cl):Int:=if zaT L F k o t≠0 then zaT L F k o t else if zav g≠0 then zav g else if (zku L k).s=true then 5 else if (zku L k).cm.length=16 then 1 else 0
def ziE(L:List Pt)(k:Int)(g:List Cl):List Pt:=L.set (pt L k.toNat).m.toNat { zku L k with cm:=(zku L k).cm++[zbu g] }
def zeM(L:List Pt)(F k o t:Int)(g:List Cl):List Pt:=if zhl L F k o t g=0 then ziE L k g else []
def zfe(L:List Pt)(F k o t:Int):Int:=if zaT L F k o t≠0 then zaT L F k o t else if (pt L k.toNat).cm.length=0 then 8 else 0
def zhU(L:List Pt)(k:Int):List Pt:=L.set k.toNat { pt L k.toNat with cm:=(pt L k.toNat).cm.drop 1 }
def zeL(L:List Pt)(F k o t:Int):List Pt:=if zfe L F k o t=0 then zhU L k else []
def zpb(L:List Pt)(F k o t:Int):List Cl:=if zfe L F k o t=0 then gr (pt L k.toNat).cm 0 else []
def zhX(L:List Pt)(k:Int):List Pt:=L.set k.toNat { pt L k.toNat with s:=true,cm:=[] }
def zeN(L:List Pt)(F k o t:Int):List Pt:=if zaT L F k o t=0 then zhX L k else []
theorem zcm{L:List Pt}{F k o t:Int}(h:zaT L F k o t=0):zdn L F/\∃ q:Nat,k=q/\q<L.length/\(pt L q).o=o/\(pt L q).t=t/\(pt L q).s=false:=by
 unfold zaT at h;by_cases h1:zbd L F=0
 ·rw[ya (not_not_intro h1)] at h;by_cases E:0<=k/\k<(L.length:Int)
  ·rw[ya (not_not_intro E)] at h;obtain⟨q,rfl⟩:=Int.eq_ofNat_of_zero_le E.1;rw[yi] at h;by_cases D:(pt L q).o≠o\/(pt L q).t≠t
   ·rw[yb D] at h;cases h
   ·rw[ya D] at h
    cases hs:(pt L q).s with
    | true=>rw[yb hs] at h;cases h
    | false=>exact⟨zcH.1 h1,q,rfl,by omega,Classical.byContradiction fun e=>D (Or.inl e),Classical.byContradiction fun e=>D (Or.inr e),hs⟩
  ·rw[yb E] at h;cases h
 ·rw[yb h1] at h;exact absurd h h1
theorem zdn.mate{L:List Pt}{F:Int}(R:zdn L F){i:Nat}(h:i<L.length):∃ q:Nat,(pt L i).m=q/\q<L.length/\q≠i/\(pt L q).m=i:=by
 obtain⟨_,I,D,_⟩:=zbm.1 (R.ok i h);obtain⟨q,E⟩:=Int.eq_ofNat_of_zero_le I.1;rw[E,yi] at D;exact⟨q,E,by omega,fun e=>D.1 (by omega),D.2⟩
end Go.Proofs.YtcbcpomacdngmaaGreat
