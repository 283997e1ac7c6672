/-
  x
-/
import Derived.Test.YtcbcpomacdngmaaGreatQ28
namespace Go.Proofs.YtcbcpomacdngmaaGreat
set_option maxRecDepth 100000
set_option maxHeartbeats 4000000
set_option linter.unusedVariables false
open Go.RowKit Go.ChangeShapes Go.WideShapes
theorem zrT{W:Wl}{L:List (Int × Bool)}(h:zeS W L=0):zan W/\L.length<=120/\zfl W L=L.foldl zdG W/\zjK W L=zny W L:=by
 have D:zbg W=0/\L.length<=120:=by
  unfold zeS at h;by_cases e:zbg W=0
  ·rw[yd e] at h;refine⟨e,?_⟩;by_cases E:120<L.length
   ·rw[yd E] at h;cases h
   ·omega
  ·rw[ya e] at h;exact absurd h e
 refine⟨zbU.1 D.1,D.2,?_,?_⟩
 ·unfold zfl;rw[yd h]
 ·unfold zjK;rw[yd h]
theorem zzh{W:Wl}{L:List (Int × Bool)}(H:zan W)(h:L.length<=120):zeS W L=0:=by
 unfold zeS;rw[yd (zbU.2 H),ya (by omega)]
theorem zvq{X:Nat->Prop}{w V:World}{A:WA}{W:Wl}(h:zdF w A W)(E:Below w.heap.size w V)(D:∀ b,X b->w.heap.size<=b):zgr X V A W:=(St.new (zvp h) D).off (zar.of_below E)
def Idle(W:Wl)(k:Nat):Prop:=(fr W.fs k).g=true\/bits .and .i64 (fr W.fs k).m 1=0
theorem zmZ{W:Wl}{k:Nat}(h:Idle W k)(s:Bool):zcp W k s≠0:=fun e=>by
 obtain⟨_,q,E,_,hg,D,_⟩:=zbW e;have:q=k:=by omega
 subst this;rcases h with h|h
 ·rw[hg] at h;cases h
 ·exact D h
theorem zuY{W:Wl}{p:Int × Bool}{k:Nat}(I:k<W.fs.length)(J:p.1≠k)(H:zan W):(fr W.fs k).t<=(fr (zdG W p).fs k).t/\((fr (zdG W p).fs k).t=(fr W.fs k).t->rlm (zdG W p) k=rlm W k/\prg (zdG W p) k=prg W k)/\(fr (zdG W p).fs k).m=(fr W.fs k).m/\((fr W.fs k).g=true->(fr (zdG W p).fs k).g=true):=by
 unfold zdG;by_cases h:zcp W p.1 p.2=0
 ·rw[yd h];obtain⟨_,q,e,M,_⟩:=zbW h;have E:k≠q:=fun F=>J (by rw[e,F]);rw[e] at h |-;obtain⟨_,A,_,_⟩:=zho h;have D:k<(zbc W q p.2).fs.length:=by rw[zdZ];exact I
  have t:=A.turn k D;have m:=A.may k D;have g:=A.gone k D;have r:=A.realm k D;have pr:=A.prog k D;rw[zdZ] at t m g r pr;refine⟨t,fun F=>⟨(r F E).trans (zeE (by rw[H.lr];exact M) _ E),(pr F).trans ?_⟩,m,g⟩;show (zbc W q p.2).ps.getD k []=_;rw[zgQ];rfl
 ·rw[ya h];exact⟨Int.le_refl _,fun _=>⟨rfl,rfl⟩,rfl,fun h=>h⟩
theorem zxn{W:Wl}{p:Int × Bool}{k:Nat}(D:p.1=k)(hi:Idle W k):zdG W p=W:=by
 unfold zdG;rw[D,ya (zmZ hi p.2)]
theorem zwr{W:Wl}(H:zan W){k:Nat}(E:k<W.fs.length)(hi:Idle W k)(p:Int × Bool):Idle (zdG W p) k/\(fr W.fs k).t<=(fr (zdG W p).fs k).t/\((fr (zdG W p).fs k).t=(fr W.fs k).t->rlm (zdG W p) k=rlm W k):=by
 by_cases D:p.1=k
 ·rw[zxn D hi];exact⟨hi,Int.le_refl _,fun _=>rfl⟩
 ·obtain⟨a,b,c,d⟩:=zuY E D H;refine⟨?_,a,fun e=>(b e).1⟩;rcases hi with h|h
  ·exact Or.inl (d h)
  ·exact Or.inr (by rw[c];exact h)
theorem zna:∀ (l:List (Int × Bool)) {W:Wl} {k:Nat},zan W->k<W.fs.length->Idle W k ->
  ((fr W.fs k).t<=(fr (l.foldl zdG W).fs k).t/\((fr (l.foldl zdG W).fs k).t=(fr W.fs k).t->rlm (l.foldl zdG W) k=rlm W k))/\∀ i,i<l.length->(l.getD i (0,false)).1=k->(zny W l).getD i 0≠0
 | [],W,k,H,E,hi=>⟨⟨Int.le_refl _,fun _=>rfl⟩,fun i hi=>absurd hi (yx _)⟩
 | p :: l,W,k,H,E,hi=>by
  obtain⟨a,b,c⟩:=zwr H E hi p;obtain⟨J,hl⟩:=zhr H p;obtain⟨⟨d,e⟩,f⟩:=zna l J (by rw[hl];exact E) a;refine⟨⟨Int.le_trans b d,fun h=>?_⟩,fun i D I=>?_⟩
  ·have h1:(fr (zdG W p).fs k).t=(fr W.fs k).t:=by
    have M:(fr (l.foldl zdG (zdG W p)).fs k).t=(fr W.fs k).t:=h;omega
   exact(e (by rw[h1];exact h)).trans (c h1)
  ·match i,D with
   | 0,_ =>
    have F:p.1=k:=I;show zcp W p.1 p.2≠0;rw[F];exact zmZ hi p.2
   | i+1,D=>exact f i (by simpa using D) I
theorem zrN{W:Wl}{k a:Nat}{b:Int}(H:zan W)(J:k<W.fs.length)(E:(fr W.fs k).g=false)(ha:a<W.fs.length) :
  toldOf (zdv W k ⟨12,a,b,0,0⟩) =
   if (fr W.fs a).g=true then -5 else if (fr W.fs a).o≠(fr W.fs k).o then -7 else if ¬ isH b then -4 else if zaz (rlm W a).s (hd (rlm W a) b).1 (hd (rlm W a) b).2=0 then (nd (rlm W a).s (hd (rlm W a) b).1.toNat).m else -zaz (rlm W a).s (hd (rlm W a) b).1 (hd (rlm W a) b).2:=by
 have e:zdv W k ⟨12,a,b,0,0⟩=zlm W k a b:=by
  unfold zdv;rw[ya (show ¬ (12:Int)=9 by decide),ya (show ¬ (12:Int)=13 by decide),yd rfl]
 rw[e];unfold zlm;rw[yj];have hc:=zcE.2 H.fs;have h1:zax W.fs k=0:=by unfold zax;rw[ya (by omega),yj,ya (by rw[E];decide)]
 have may:zdI W.fs k a 1=if (fr W.fs a).g=true then 5 else if (fr W.fs a).o≠(fr W.fs k).o then 7 else 0:=by
  unfold zdI;rw[zdz,ya (yJ hc),ya (yJ h1)]
  have I:zax W.fs a=if (fr W.fs a).g=true then 5 else 0:=by
   unfold zax;rw[ya (by omega),yj]
  rw[I];by_cases g:(fr W.fs a).g=true
  ·rw[yd g,yd g,yd (by decide)]
  ·rw[ya g,ya g,ya (by decide),ya (by decide)];unfold zso;rw[yd rfl,yj,yj];by_cases o:(fr W.fs a).o=(fr W.fs k).o
   ·rw[ya (yJ o),yd (yG o.symm)]
   ·rw[yd o,ya (fun h=>o (of_decide_eq_true h).symm)]
 rw[may];unfold toldOf zff;by_cases g:(fr W.fs a).g=true
 ·simp[g,zaq]
 ·simp only[ya g];by_cases o:(fr W.fs a).o=(fr W.fs k).o
  ·simp only[ya (yJ o)];by_cases D:isH b
   ·simp only[yd D,ya (yJ D),zaq,if_true];by_cases F:zaz (rlm W a).s (hd (rlm W a) b).1 (hd (rlm W a) b).2=0
    ·simp[F]
    ·simp[F]
   ·simp[D,zaq]
  ·simp[o,zaq]
structure ECl where
 n:Int
 ka:Option Addr
 kl:Nat
 kc:Nat
def zyu(x:ECl):Nat->Value
 | 0=>.int .i64 x.n
 | _=>.slice x.ka x.kl x.kc
theorem zxS(n:Nat)(hn:n<=100000)(w:World):(Instr.makeSlice 45 (.int .i64 (n:Int)) (.int .i64 (n:Int))).run Tryz.prog w=.ok (.slice (some ⟨w.heap.size,0,none⟩) n n) (w.alloc (.cells (madeCells #[.int .i64 0,.slice none 0 0] (n*2)) 55)):=by
 have I:(Tryz.prog.info? 55).map (fun i=>(i.zero,i.size,i.bytes))=some (some (.agg #[.int .i64 0,.slice none 0 0]),2,32):=by kernel_rfl
 obtain⟨i,hi,D,E,F⟩:=info_parts I;have h:=run_make (P:=Tryz.prog) w 45 55 i _ Tryz.underlying45 hi D .i64 .i64 n n (by omega) (by omega) (by rw[F];omega) (by omega);rw[E] at h;simp only[yj] at h;exact h
theorem zaD.putCl{w:World}{g n k:Nat}{F:Nat->Value}(h:w.rowIs g 55 (n*2) F)(x:ECl):∃ D,((w.setCell ⟨g,k*2,none⟩ (.int .i64 x.n)).setCell ⟨g,k*2+1,none⟩ (.slice x.ka x.kl x.kc)).rowIs g 55 (n*2) D/\(∀ j,j<2->D (k*2+j)=zyu x j)/\∀ i,i<k->∀ j,j<2->D (i*2+j)=F (i*2+j):=by
 refine⟨_,(h.set _ _).set _ _,fun j E=>?_,fun i hi j E=>?_⟩
 ·rcases(by omega:j=0\/j=1) with rfl|rfl
  ·rw[ya (by omega),yd (by omega)];rfl
  ·rw[yd rfl];rfl
 ·rw[ya (by omega),ya (by omega)]
theorem zzS(K:Nat)(eg:∀ args w,(callFunc K args).run Tryz.prog w=.ok (.enter K args) w)(a:Option Addr)(c n:Nat)(S:Nat->ECl)(R:Nat->ECl->Nat->Nat->World->Prop)(w:World)(hn:n<=100000)
  (hs:∀ i,i<n->∃ b o,a=some ⟨b,o,none⟩/\w.cell? ⟨b,o+i*2,none⟩=some (.int .i64 (S i).n)/\w.cell? ⟨b,o+i*2+1,none⟩=some (.slice (S i).ka (S i).kl (S i).kc))
  (hK:∀ i,i<n->∀ W,Below w.heap.size w W->Calls Tryz.prog K #[.agg #[.int .i64 (S i).n,.slice (S i).ka (S i).kl (S i).kc]] W fun e U=>∃ y:ECl,e=.returned (.agg #[.int .i64 y.n,.slice y.ka y.kl y.kc])/\Below W.heap.size W U/\St (fun b=>b<W.heap.size\/U.heap.size<=b) (R i y W.heap.size U.heap.size) U) :
  Calls Tryz.prog 134 #[.slice a n c,.func (.func K) #[] #[]] w fun e w' => e=.returned (.slice (some ⟨w.heap.size,0,none⟩) n n)/\Below w.heap.size w w' /\ zaD zyu 55 2 n R w.heap.size n w' := by
 have HS:Hid _:=hs;have HK:Hid _:=hK;clear hs hK;have b3:=zxS n hn
 go_enter Tryz.func134,Tryz.ntmps134
 go_wp2
 go_loopg [13] n (fun m s13 wr=>∃ k:Nat,k<=n/\n-k<=m/\s13=.int .i64 k/\Below w.heap.size w wr/\Hid (zaD zyu 55 2 n R w.heap.size k wr))
 case atStart=>exact⟨0,by omega,by omega,rfl,zaa _ _,zaD.zero w _ 55 2 n R (S 0)⟩
 case round =>
  obtain⟨k,hk,hg,rfl,I,O⟩:=hrel;by_cases M:k<n
  ·have b0:(k:Int)<(n:Int):=by omega
   obtain⟨b,o,rfl,c0,c1⟩:=HS.out k M;replace c0:=zab c0 I;replace c1:=zab c1 I;have b1:b<wr.heap.size:=ye _ _ c0;obtain⟨E,a5,F,Z⟩:=O.out.facts;have D:Hid (∀ W,Below wr.heap.size wr W->Calls _ _ _ _ _):=fun W hW=>HK.out k M W (I.trans (hW.mono I.size));generalize S k=x at *;obtain⟨xn,b4,b6,b5⟩:=x;dsimp only at c0 c1 D
   go_wp2_with (go_at_fn K;refine(D.out _ ?nd).mono ?_;(case nd=>exact zaa _ _);rintro e w3 ⟨⟨yn,a6,a8,a7⟩,rfl,J,h3⟩;have HR:Hid _:=h3;clear h3;have T:Hid (Below wr.heap.size wr w3):=(zaa _ _).trans (J.mono (by simp));have s3:Hid (wr.heap.size<=w3.heap.size):=T.out.size;have SZ:Hid _:=J.size;clear J;have q0:=(T.out.cell (by exact E)).trans (Z (k*2) (by omega));have q1:=(T.out.cell (by exact E)).trans (Z (k*2+1) (by omega));have a9:=fun o=>(T.out.frozen (by exact E)).trans (a5 o);have b2:w.heap.size<w3.heap.size:=yz E s3.out)
   go_roundg (n-(k+1))
   case measure=>omega
   case rel =>
    refine⟨k+1,by omega,by omega,by go_num,(((I.trans (T.out.mono I.size)).setCell (by simp) _).setCell (by simp) _),zaD.step O.out M T.out (by simp) ?_ HR.out rfl (((zar.refl (fun b=>b=w.heap.size) _).trans (zar.set (X:=fun b=>b=w.heap.size) _ _ rfl)).trans (zar.set (X:=fun b=>b=w.heap.size) _ _ rfl)) (fun F Z=>zaD.putCl Z ⟨yn,a6,a8,a7⟩)⟩;have:=SZ.out;simpa using this
  ·have:k=n:=by omega
   subst this
   go_wp2
   go_ret;exact⟨rfl,I,O.out⟩
def RCl(G:List Cl)(i:Nat)(y:ECl)(lo hi:Nat)(V:World):Prop:=y.n=(cl G i).n/\y.kl=(cl G i).ks.length/\zak V y.ka (cl G i).ks
theorem zvJ{w:World}{g:Nat}{G:List Cl}(h:zaD zyu 55 2 G.length (RCl G) g G.length w):zaI w (some ⟨g,0,none⟩) G:=fun i hi=>by
 obtain⟨v,_,_,F,D,O⟩:=h;obtain⟨h1,_,_,_,_,J⟩:=O i hi;obtain⟨E,I,M⟩:=J.at;refine⟨g,0,rfl,?_⟩;rw[yB];refine⟨(D.cell (by omega)).trans ?_,(v i).ka,(v i).kc,(D.cell (by omega)).trans ?_,M⟩
 ·rw[<- E];exact congrArg some (h1 0 (by omega))
 ·rw[<- I];exact congrArg some (h1 1 (by omega))
theorem zsR(n:Int)(ka:Option Addr)(kc:Nat)(ks:List Int)(w:World)(hk:ks.length<=1000)(M:zak w ka ks) :
  Calls Tryz.prog 135 #[.agg #[.int .i64 n,.slice ka ks.length kc]] w fun e w' => ∃ g,e=.returned (.agg #[.int .i64 n,.slice (some ⟨g,0,none⟩) ks.length ks.length])/\Below w.heap.size w w' /\ w.heap.size<=g/\w'.rowIs g 3 ks.length (fun j=>.int .i64 (ks.getD j 0)):=by
 have D:Hid (∀ W,Below w.heap.size w W->Calls _ _ _ _ _):=fun W hW=>zfq ka kc ks W (by omega) (M.below hW);clear M hk;obtain⟨l,hl⟩:∃ l,ks.length=l:=⟨_,rfl⟩;rw[hl] at D |-;clear hl
 go_enter Tryz.func135,Tryz.ntmps135
 go_wp2_with fail
 obtain⟨V,I⟩:∃ V,(w.alloc (.cells #[.int .i64 n,.slice ka l kc] 55)).alloc (.cells #[.int .i64 0,.slice none 0 0] 55)=V:=⟨_,rfl⟩;have Z:V.cell? ⟨w.heap.size,0,none⟩=some (.int .i64 n):=by rw[<- I];exact zaB _ _ _ 0 _ rfl
 have v1:V.cell? ⟨w.heap.size,1,none⟩=some (.slice ka l kc):=by rw[<- I];exact zaB _ _ _ 1 _ rfl
 have z0:V.cell? ⟨w.heap.size+1,0,none⟩=some (.int .i64 0):=by rw[<- I];exact zaC _ _ _ 0 _ rfl
 have z1:V.cell? ⟨w.heap.size+1,1,none⟩=some (.slice none 0 0):=by rw[<- I];exact zaC _ _ _ 1 _ rfl
 have zf:∀ o,V.frozen? ⟨w.heap.size+1,o,none⟩=false:=fun o=>by rw[<- I];exact ziW _ _ _ _ _
 have T:Hid (Below w.heap.size w V):=by rw[<- I];exact zah _ _ _
 have sV:w.heap.size+1<V.heap.size:=ye _ _ z0;have a5:w.heap.size<V.heap.size:=ye _ _ Z;rw[I];clear I
 go_region_held3 (fun O=>O.cell? ⟨w.heap.size,0,none⟩=some (.int .i64 n)/\O.cell? ⟨w.heap.size,1,none⟩=some (.slice ka l kc)) (go_keep) (first|(go_at_call 85;refine yi (D.out _ ?nd) ?_;(case nd=>exact T.out.drew);rintro e w3 ⟨rfl,J,F⟩;have E:Hid (Below V.heap.size V w3):=(yr V.heap.size V).drew.trans J;have U:Hid (Below w.heap.size w w3):=T.out.trans (E.out.mono T.out.size);have HR:Hid (w3.rowIs V.heap.size 3 l (fun j=>.int .i64 (ks.getD j 0))):=F;have u0:=zab Z E.out;have u1:=zab v1 E.out;have q0:=zab z0 E.out;have q1:=zab z1 E.out;have fz:=fun o=>(E.out.frozen (show (⟨w.heap.size+1,o,none⟩:Addr).block<V.heap.size from sV)).trans (zf o);have s3:V.heap.size<w3.heap.size:=World.rowIs.lt F;clear J F))
 go_wp2
 refine yw (v:=.agg #[.int .i64 n,.slice (some ⟨V.heap.size,0,none⟩) l l]) (by simp[results,Tryz.results135,go_sem,q0,q1]) rfl ⟨V.heap.size,rfl,(U.out.setCell (by simp) _).setCell (by simp) _,T.out.size,(HR.out.setOther (by simp;omega) _).setOther (by simp;omega) _⟩
theorem zqM(a:Option Addr)(c:Nat)(G:List Cl)(w:World)(U:G.length<=1000)(hK:∀ i,i<G.length->(cl G i).ks.length<=1000)(J:zaI w a G) :
  Calls Tryz.prog 134 #[.slice a G.length c,.func (.func 135) #[] #[]] w fun e w' => e=.returned (.slice (some ⟨w.heap.size,0,none⟩) G.length G.length)/\Below w.heap.size w w' /\ zaD zyu 55 2 G.length (RCl G) w.heap.size G.length w' := by
 obtain⟨f,I⟩:=Classical.skolem.1 (fun i=>show ∃ x:Option Addr × Nat,i<G.length->(∃ b o,a=some ⟨b,o,none⟩/\w.cell? ⟨b,o+i*2,none⟩=some (.int .i64 (cl G i).n)/\w.cell? ⟨b,o+i*2+1,none⟩=some (.slice x.1 (cl G i).ks.length x.2))/\zak w x.1 (cl G i).ks by
  by_cases hi:i<G.length
  ·obtain⟨b,o,e,c0,ka,kc,c1,D⟩:=J i hi;exact⟨(ka,kc),fun _=>⟨⟨b,o,e,c0,c1⟩,D⟩⟩
  ·exact⟨(none,0),fun h=>absurd h hi⟩)
 refine zzS 135 (yK Tryz.func135 (by kernel_rfl) rfl) a c G.length (fun i=>⟨(cl G i).n,(f i).1,(cl G i).ks.length,(f i).2⟩) (RCl G) w (by omega) (fun i hi=>(I i hi).1) (fun i hi W M=>?_);refine(zsR (cl G i).n (f i).1 (f i).2 (cl G i).ks W (hK i hi) ((I i hi).2.below M)).mono ?_;rintro e w' ⟨g,rfl,O,hg,E⟩;refine⟨⟨(cl G i).n,some ⟨g,0,none⟩,(cl G i).ks.length,(cl G i).ks.length⟩,rfl,O,fun Z T=>⟨rfl,rfl,zhj (E.of_block (T.block g E.lt (fun F=>?_)))⟩⟩;have:=E.lt;rcases F with F|F <;> omega
theorem zhH(a:Option Addr)(c:Nat)(G:List Cl)(w:World)(Z:G.length<=1000)(hK:∀ i,i<G.length->(cl G i).ks.length<=1000)(I:zaI w a G) :
  Calls Tryz.prog 104 #[.agg #[.slice a G.length c]] w fun e w' => ∃ g,e=.returned (.agg #[.slice (some ⟨g,0,none⟩) G.length G.length])/\Below w.heap.size w w' /\ w.heap.size<=g/\St (fun b=>b<w.heap.size\/w'.heap.size<=b) (fun V=>zaI V (some ⟨g,0,none⟩) G) w' := by
 have D:Hid (∀ J M,Calls _ _ _ _ _):=fun J M=>zqM a c G ((w.alloc J).alloc M) Z hK (I.below (zah _ _ _));have T:Hid (∀ V:World,zaD zyu 55 2 G.length (RCl G) (w.heap.size+1+1) G.length V->St (fun b=>b<w.heap.size\/V.heap.size<=b) (fun V=>zaI V (some ⟨w.heap.size+1+1,0,none⟩) G) V):=fun V h=>(h.st (by omega) (yk _)).imp (fun V h=>zvJ h);clear I hK;simp only[ys] at D;generalize G.length=n at *
 go_enter Tryz.func104,Tryz.ntmps104
 go_wp2_with (go_at_call 134;refine(D.out _ _).mono ?_;rintro e w3 ⟨rfl,E,F⟩;have U:Hid (zaD zyu 55 2 n (RCl G) (w.heap.size+1+1) n w3):=F;clear F;have y1:w3.cell? ⟨w.heap.size+1,0,none⟩=some (.slice none 0 0):=(E.cell (by simp)).trans (by go_simp);have y2:∀ o,w3.frozen? ⟨w.heap.size+1,o,none⟩=false:=fun o=>(E.frozen (by simp)).trans (by go_simp);have O:Hid (Below w.heap.size w w3):=(zah _ _ _).trans (E.mono (by omega));clear E)
 refine yw (v:=.agg #[.slice (some ⟨w.heap.size+1+1,0,none⟩) n n]) (by simp[results,Tryz.results104,go_sem,y1]) rfl ⟨w.heap.size+1+1,rfl,O.out.setCell (by simp) _,by omega,T.out _ (U.out.set (by omega) _)⟩
theorem zkA{P:Program}(w:World)(J T U elem:TypeId)(i:TypeInfo)(d a:Option Addr)(D F E I:Nat)(O:P.underlying J=some (.slice elem))(M:P.info? elem=some i)(hn:Nat.min E D=0) :
  (Builtin.copy_ #[J,T] U #[.slice d D F,.slice a E I]).run P w=.ok (goInt 0) w:=by
 have hl:∀ (x:Addr),(loadCells x 0).run P w=.ok #[] w:=fun x=>by simpa using run_loadCells_list (P:=P) w x [] (by simp)
 cases d <;> cases a <;> simp[Builtin.copy_,run_underlying O,Builtin.lenOf,Builtin.firstCells,sizeOf,typeInfo,M,hn,storeCells,hl]
theorem zde{P:Program}{w:World}{ops:Array Oper}{rest:List Oper}{o:Oper}{a:Act}{Q:Exit->Act->World->Prop}(O:o.guard=none)(d s:Operand)(Z sT:TypeId)
  (ho:o.op=.call { callee:=.builtin .copy,args:=#[d,s],argTypes:=#[Z,sT] }) (elem:TypeId) (i:TypeInfo) (size:Nat) (hu:P.underlying Z=some (.slice elem)) (hi:P.info? elem=some i) (hz:i.size=size)
  (g n D:Nat) (sa:Option Addr) (F:Nat) (hd:a.eval d=.slice (some ⟨g,0,none⟩) n D) (hs:a.eval s=.slice sa n F)
  (I:List Value) (t:TypeId) (hg:w.heap[g]?=some (.cells I.toArray t (0,0))) (J:List Value) (hl:J.length=n*size) (E:I.length=n*size) (T:sa=none->n=0)
  (hsrc:∀ M,sa=some M->∀ j v,J[j]?=some v->w.cell? (M.add j)=some v) (h1:∀ v ∈ J,v.oneCell' = true)
  (h:∀ w', Hid (w'.heap[g]?=some (.cells J.toArray t (0,0)))->Hid (∀ B w0,Below B w0 w->B<=g->Below B w0 w')->wpList P ops Q rest (a.put o.dst (goInt n)) w'):wpList P ops Q (o :: rest) a w:=by
 subst hz;by_cases h0:n=0
 ·subst h0;rw[Nat.zero_mul] at hl E;obtain rfl:J=[]:=List.eq_nil_of_length_eq_zero hl;obtain rfl:I=[]:=List.eq_nil_of_length_eq_zero E;refine wpList_plain O fun K hK=>?_;have U:=zkA (P:=P) w Z sT o.type elem i (some ⟨g,0,none⟩) sa 0 D 0 F hu hi rfl;unfold Oper.wp;simp[execOp,ho,resolve,invoke,builtin,hd,hs,U,Result.andThen];exact hK _ _ (h w hg (fun _ _ hb _=>hb))
 ·cases sa with
  | none=>exact absurd (T rfl) h0
  | some M =>
   refine zdf O d s Z sT ho elem i hu hi g 0 n D M n F n hd hs I t hg J (Nat.min_self n).symm hl (hsrc M rfl) (by omega) h1 (fun w' hw hb=>h w' ?_ hb);show _=_;rw[hw];simp[hl,E]
structure EGr where
 ga:Option Addr
 gl:Nat
 gc:Nat
def zxK(x:EGr):Nat->Value
 | _=>.slice x.ga x.gl x.gc
theorem zAq(n:Nat)(hn:n<=100000)(w:World):(Instr.makeSlice 119 (.int .i64 (n:Int)) (.int .i64 (n:Int))).run Tryz.prog w=.ok (.slice (some ⟨w.heap.size,0,none⟩) n n) (w.alloc (.cells (madeCells #[.slice none 0 0] (n*1)) 47)):=by
 have I:(Tryz.prog.info? 47).map (fun i=>(i.zero,i.size,i.bytes))=some (some (.agg #[.slice none 0 0]),1,24):=by kernel_rfl
 obtain⟨i,hi,D,E,F⟩:=info_parts I;have h:=run_make (P:=Tryz.prog) w 119 47 i _ Tryz.underlying119 hi D .i64 .i64 n n (by omega) (by omega) (by rw[F];omega) (by omega);rw[E] at h;simp only[yj] at h;exact h
theorem zaD.putGr{w:World}{g n k:Nat}{F:Nat->Value}(h:w.rowIs g 47 (n*1) F)(x:EGr):∃ D,(w.setCell ⟨g,k,none⟩ (.slice x.ga x.gl x.gc)).rowIs g 47 (n*1) D/\(∀ j,j<1->D (k*1+j)=zxK x j)/\∀ i,i<k->∀ j,j<1->D (i*1+j)=F (i*1+j):=by
 refine⟨_,h.set _ _,fun j E=>?_,fun i hi j E=>?_⟩
 ·obtain rfl:j=0:=by omega
  exact yd (by omega)
 ·exact ya (by omega)
theorem zzT(K:Nat)(eg:∀ args w,(callFunc K args).run Tryz.prog w=.ok (.enter K args) w)(a:Option Addr)(c n:Nat)(S:Nat->EGr)(R:Nat->EGr->Nat->Nat->World->Prop)(w:World)(hn:n<=100000)
  (hs:∀ i,i<n->∃ b o,a=some ⟨b,o,none⟩/\w.cell? ⟨b,o+i,none⟩=some (.slice (S i).ga (S i).gl (S i).gc))
  (hK:∀ i,i<n->∀ W,Below w.heap.size w W->Calls Tryz.prog K #[.agg #[.slice (S i).ga (S i).gl (S i).gc]] W fun e U=>∃ y:EGr,e=.returned (.agg #[.slice y.ga y.gl y.gc])/\Below W.heap.size W U/\St (fun b=>b<W.heap.size\/U.heap.size<=b) (R i y W.heap.size U.heap.size) U) :
  Calls Tryz.prog 109 #[.slice a n c,.func (.func K) #[] #[]] w fun e w' => e=.returned (.slice (some ⟨w.heap.size,0,none⟩) n n)/\Below w.heap.size w w' /\ zaD zxK 47 1 n R w.heap.size n w' := by
 have HS:Hid _:=hs;have HK:Hid _:=hK;clear hs hK;have b3:=zAq n hn
 go_enter Tryz.func109,Tryz.ntmps109
 go_wp2
 go_loopg [13] n (fun m s13 wr=>∃ k:Nat,k<=n/\n-k<=m/\s13=.int .i64 k/\Below w.heap.size w wr/\Hid (zaD zxK 47 1 n R w.heap.size k wr))
 case atStart=>exact⟨0,by omega,by omega,rfl,zaa _ _,(by have h:=zaD.zero (cv:=zxK) w #[.slice none 0 0] 47 1 n R (S 0);rw[Nat.mul_one] at h;exact h)⟩
 case round =>
  obtain⟨k,hk,hg,rfl,M,O⟩:=hrel;by_cases J:k<n
  ·have b0:(k:Int)<(n:Int):=by omega
   obtain⟨b,o,rfl,c0⟩:=HS.out k J;replace c0:=zab c0 M;have b1:b<wr.heap.size:=ye _ _ c0;obtain⟨I,a5,F,Z⟩:=O.out.facts;have D:Hid (∀ W,Below wr.heap.size wr W->Calls _ _ _ _ _):=fun W hW=>HK.out k J W (M.trans (hW.mono M.size));generalize S k=x at *;obtain⟨b4,b6,b5⟩:=x;dsimp only at c0 D
   go_wp2_with (go_at_fn K;refine(D.out _ ?nd).mono ?_;(case nd=>exact zaa _ _);rintro e w3 ⟨⟨a6,a8,a7⟩,rfl,E,h3⟩;have HR:Hid _:=h3;clear h3;have T:Hid (Below wr.heap.size wr w3):=(zaa _ _).trans (E.mono (by simp));have s3:Hid (wr.heap.size<=w3.heap.size):=T.out.size;have SZ:Hid _:=E.size;clear E;have q0:=(T.out.cell (by exact I)).trans (Z (k) (by omega));have a9:=fun o=>(T.out.frozen (by exact I)).trans (a5 o);have b2:w.heap.size<w3.heap.size:=yz I s3.out)
   go_roundg (n-(k+1))
   case measure=>omega
   case rel =>
    refine⟨k+1,by omega,by omega,by go_num,((M.trans (T.out.mono M.size)).setCell (by simp) _),zaD.step O.out J T.out (by simp) ?_ HR.out rfl ((zar.refl (fun b=>b=w.heap.size) _).trans (zar.set (X:=fun b=>b=w.heap.size) _ _ rfl)) (fun F Z=>zaD.putGr Z ⟨a6,a8,a7⟩)⟩;have:=SZ.out;simpa using this
  ·have:k=n:=by omega
   subst this
   go_wp2
   go_ret;exact⟨rfl,M,O.out⟩
structure EPt where
 o:Int
 t:Int
 m:Int
 ga:Option Addr
 gl:Nat
 gc:Nat
 h:Bool
def zvM(x:EPt):Nat->Value
 | 0=>.int .i64 x.o
 | 1=>.int .i64 x.t
 | 2=>.int .i64 x.m
 | 3=>.slice x.ga x.gl x.gc
 | _=>.bool x.h
theorem zAu(n:Nat)(hn:n<=100000)(w:World):(Instr.makeSlice 26 (.int .i64 (n:Int)) (.int .i64 (n:Int))).run Tryz.prog w=.ok (.slice (some ⟨w.heap.size,0,none⟩) n n) (w.alloc (.cells (madeCells #[.int .i64 0,.int .i64 0,.int .i64 0,.slice none 0 0,.bool false] (n*5)) 121)):=by
 have I:(Tryz.prog.info? 121).map (fun i=>(i.zero,i.size,i.bytes))=some (some (.agg #[.int .i64 0,.int .i64 0,.int .i64 0,.slice none 0 0,.bool false]),5,56):=by kernel_rfl
 obtain⟨i,hi,D,E,F⟩:=info_parts I;have h:=run_make (P:=Tryz.prog) w 26 121 i _ Tryz.underlying26 hi D .i64 .i64 n n (by omega) (by omega) (by rw[F];omega) (by omega);rw[E] at h;simp only[yj] at h;exact h
theorem zaD.putPt{w:World}{g n k:Nat}{F:Nat->Value}(h:w.rowIs g 121 (n*5) F)(x:EPt):∃ D,(((((w.setCell ⟨g,k*5,none⟩ (.int .i64 x.o)).setCell ⟨g,k*5+1,none⟩ (.int .i64 x.t)).setCell ⟨g,k*5+2,none⟩ (.int .i64 x.m)).setCell ⟨g,k*5+3,none⟩ (.slice x.ga x.gl x.gc)).setCell ⟨g,k*5+4,none⟩ (.bool x.h)).rowIs g 121 (n*5) D/\(∀ j,j<5->D (k*5+j)=zvM x j)/\∀ i,i<k->∀ j,j<5->D (i*5+j)=F (i*5+j):=by
 refine⟨_,((((h.set _ _).set _ _).set _ _).set _ _).set _ _,fun j E=>?_,fun i hi j E=>?_⟩
 ·rcases(by omega:j=0\/j=1\/j=2\/j=3\/j=4) with rfl|rfl|rfl|rfl|rfl
  ·rw[ya (by omega),ya (by omega),ya (by omega),ya (by omega),yd (by omega)];rfl
  ·rw[ya (by omega),ya (by omega),ya (by omega),yd rfl];rfl
  ·rw[ya (by omega),ya (by omega),yd rfl];rfl
  ·rw[ya (by omega),yd rfl];rfl
  ·rw[yd rfl];rfl
 ·rw[ya (by omega),ya (by omega),ya (by omega),ya (by omega),ya (by omega)]
theorem zzX(K:Nat)(eg:∀ args w,(callFunc K args).run Tryz.prog w=.ok (.enter K args) w)(a:Option Addr)(c n:Nat)(S:Nat->EPt)(R:Nat->EPt->Nat->Nat->World->Prop)(w:World)(hn:n<=100000)
  (hs:∀ i,i<n->∃ b o,a=some ⟨b,o,none⟩/\w.cell? ⟨b,o+i*5,none⟩=some (.int .i64 (S i).o)/\w.cell? ⟨b,o+i*5+1,none⟩=some (.int .i64 (S i).t)/\w.cell? ⟨b,o+i*5+2,none⟩=some (.int .i64 (S i).m)/\w.cell? ⟨b,o+i*5+3,none⟩=some (.slice (S i).ga (S i).gl (S i).gc)/\w.cell? ⟨b,o+i*5+4,none⟩=some (.bool (S i).h))
  (hK:∀ i,i<n->∀ W,Below w.heap.size w W->Calls Tryz.prog K #[.agg #[.int .i64 (S i).o,.int .i64 (S i).t,.int .i64 (S i).m,.slice (S i).ga (S i).gl (S i).gc,.bool (S i).h]] W fun e Z=>∃ y:EPt,e=.returned (.agg #[.int .i64 y.o,.int .i64 y.t,.int .i64 y.m,.slice y.ga y.gl y.gc,.bool y.h])/\Below W.heap.size W Z/\St (fun b=>b<W.heap.size\/Z.heap.size<=b) (R i y W.heap.size Z.heap.size) Z) :
  Calls Tryz.prog 107 #[.slice a n c,.func (.func K) #[] #[]] w fun e w' => e=.returned (.slice (some ⟨w.heap.size,0,none⟩) n n)/\Below w.heap.size w w' /\ zaD zvM 121 5 n R w.heap.size n w' := by
 have HS:Hid _:=hs;have HK:Hid _:=hK;clear hs hK;have b3:=zAu n hn
 go_enter Tryz.func107,Tryz.ntmps107
 go_wp2
 go_loopg [13] n (fun m s13 wr=>∃ k:Nat,k<=n/\n-k<=m/\s13=.int .i64 k/\Below w.heap.size w wr/\Hid (zaD zvM 121 5 n R w.heap.size k wr))
 case atStart=>exact⟨0,by omega,by omega,rfl,zaa _ _,zaD.zero w _ 121 5 n R (S 0)⟩
 case round =>
  obtain⟨k,hk,hg,rfl,I,O⟩:=hrel;by_cases U:k<n
  ·have b0:(k:Int)<(n:Int):=by omega
   obtain⟨b,o,rfl,c0,c1,c2,c3,c4⟩:=HS.out k U;replace c0:=zab c0 I;replace c1:=zab c1 I;replace c2:=zab c2 I;replace c3:=zab c3 I;replace c4:=zab c4 I;have b1:b<wr.heap.size:=ye _ _ c0;obtain⟨E,a5,F,M⟩:=O.out.facts;have D:Hid (∀ W,Below wr.heap.size wr W->Calls _ _ _ _ _):=fun W hW=>HK.out k U W (I.trans (hW.mono I.size));generalize S k=x at *;obtain⟨xo,xt,xm,b4,b6,b5,xh⟩:=x;dsimp only at c0 c1 c2 c3 c4 D
   go_wp2_with (go_at_fn K;refine(D.out _ ?nd).mono ?_;(case nd=>exact zaa _ _);rintro e w3 ⟨⟨yo,yt,ym,a6,a8,a7,yh⟩,rfl,T,h3⟩;have HR:Hid _:=h3;clear h3;have J:Hid (Below wr.heap.size wr w3):=(zaa _ _).trans (T.mono (by simp));have s3:Hid (wr.heap.size<=w3.heap.size):=J.out.size;have SZ:Hid _:=T.size;clear T;have q0:=(J.out.cell (by exact E)).trans (M (k*5) (by omega));have q1:=(J.out.cell (by exact E)).trans (M (k*5+1) (by omega));have q2:=(J.out.cell (by exact E)).trans (M (k*5+2) (by omega));have q3:=(J.out.cell (by exact E)).trans (M (k*5+3) (by omega));have q4:=(J.out.cell (by exact E)).trans (M (k*5+4) (by omega));have a9:=fun o=>(J.out.frozen (by exact E)).trans (a5 o);have b2:w.heap.size<w3.heap.size:=yz E s3.out)
   go_roundg (n-(k+1))
   case measure=>omega
   case rel =>
    refine⟨k+1,by omega,by omega,by go_num,((((((I.trans (J.out.mono I.size)).setCell (by simp) _).setCell (by simp) _).setCell (by simp) _).setCell (by simp) _).setCell (by simp) _),zaD.step O.out U J.out (by simp) ?_ HR.out rfl ((((((zar.refl (fun b=>b=w.heap.size) _).trans (zar.set (X:=fun b=>b=w.heap.size) _ _ rfl)).trans (zar.set (X:=fun b=>b=w.heap.size) _ _ rfl)).trans (zar.set (X:=fun b=>b=w.heap.size) _ _ rfl)).trans (zar.set (X:=fun b=>b=w.heap.size) _ _ rfl)).trans (zar.set (X:=fun b=>b=w.heap.size) _ _ rfl)) (fun F M=>zaD.putPt M ⟨yo,yt,ym,a6,a8,a7,yh⟩)⟩;have:=SZ.out;simpa using this
  ·have:k=n:=by omega
   subst this
   go_wp2
   go_ret;exact⟨rfl,I,O.out⟩
def RGr(C:List (List Cl))(i:Nat)(y:EGr)(lo hi:Nat)(V:World):Prop:=y.gl=(gr C i).length/\zaI V y.ga (gr C i)
theorem zoi(a:Option Addr)(c:Nat)(C:List (List Cl))(w:World)(T:C.length<=1000)(hK:∀ i,i<C.length->(gr C i).length<=1000/\∀ j,j<(gr C i).length->(cl (gr C i) j).ks.length<=1000)(E:zkf w a C) :
  Calls Tryz.prog 109 #[.slice a C.length c,.func (.func 104) #[] #[]] w fun e w' => e=.returned (.slice (some ⟨w.heap.size,0,none⟩) C.length C.length)/\Below w.heap.size w w' /\ zaD zxK 47 1 C.length (RGr C) w.heap.size C.length w' := by
 obtain⟨f,D⟩:=Classical.skolem.1 (fun i=>show ∃ x:Option Addr × Nat,i<C.length->(∃ b o,a=some ⟨b,o,none⟩/\w.cell? ⟨b,o+i,none⟩=some (.slice x.1 (gr C i).length x.2))/\zaI w x.1 (gr C i) by
  by_cases hi:i<C.length
  ·obtain⟨b,o,ga,gc,e,c0,hc⟩:=E i hi;exact⟨(ga,gc),fun _=>⟨⟨b,o,e,c0⟩,hc⟩⟩
  ·exact⟨(none,0),fun h=>absurd h hi⟩)
 refine zzT 104 (yK Tryz.func104 (by kernel_rfl) rfl) a c C.length (fun i=>⟨(f i).1,(gr C i).length,(f i).2⟩) (RGr C) w (by omega) (fun i hi=>(D i hi).1) (fun i hi W F=>?_);refine(zhH (f i).1 (f i).2 (gr C i) W (hK i hi).1 (hK i hi).2 ((D i hi).2.below F)).mono ?_;rintro e w' ⟨g,rfl,I,hg,M⟩;exact⟨⟨some ⟨g,0,none⟩,(gr C i).length,(gr C i).length⟩,rfl,I,fun O J=>⟨rfl,M O J⟩⟩
def zvt(lo hi:Nat)(w:World)(v:Value)(C:List (List Cl)):Prop:=∃ b J,lo<=b/\b<hi/\v=.slice (some ⟨b,0,none⟩) C.length C.length/\w.rowIs b 47 C.length J/\∀ i,i<C.length->∃ ga gc,J i=.slice ga (gr C i).length gc/\St (fun x=>x<=b\/hi<=x) (fun w=>zaI w ga (gr C i)) w
theorem zvt.off{lo hi:Nat}{w w' : World}{v:Value}{C:List (List Cl)}{Y:Nat->Prop}(h:zvt lo hi w v C)(F:zar Y w w')(E:∀ b,Y b->b<lo\/hi<=b):zvt lo hi w' v C:=by
 obtain⟨b,J,h1,I,M,D,h5⟩:=h;refine⟨b,J,h1,I,M,D.of_block (F.block b D.lt (fun T=>by have:=E b T;omega)),fun i hi=>?_⟩;obtain⟨ga,gc,e,hs⟩:=h5 i hi;exact⟨ga,gc,e,hs.off (F.mono (fun x O=>by have:=E x O;show x<=b\/_<=x;omega))⟩
theorem zvt.grs{lo hi:Nat}{w:World}{v:Value}{C:List (List Cl)}(h:zvt lo hi w v C)(I:C.length<=1000):zsn w v C:=by
 obtain⟨b,J,h1,F,D,E,h5⟩:=h;refine⟨some ⟨b,0,none⟩,C.length,D,⟨(fun e=>by cases e),yk _,by omega⟩,fun i hi=>?_⟩;obtain⟨ga,gc,e,hs⟩:=h5 i hi;exact⟨b,0,ga,gc,rfl,by rw[yB,E.cell hi,e],hs.at⟩
theorem zvt.made{lo hi g:Nat}{C:List (List Cl)}{w:World}(h:zaD zxK 47 1 C.length (RGr C) g C.length w)(E:lo<=g)(O:w.heap.size<=hi):zvt lo hi w (.slice (some ⟨g,0,none⟩) C.length C.length) C:=by
 obtain⟨v,l,u,F,D,T⟩:=h;have hg:=D.lt;rw[Nat.mul_one] at D;refine⟨g,F,E,by omega,rfl,D,fun i hi=>?_⟩;obtain⟨h1,U,Z,h4,_,I⟩:=T i hi;obtain⟨J,_⟩:=I.at;refine⟨(v i).ga,(v i).gc,?_,(I.imp (fun V h=>h.2)).less (fun b M=>by show b<l i\/u i<=b;have:b<=g\/_<=b:=M;omega)⟩;have:=h1 0 (by omega);rw[Nat.mul_one,Nat.add_zero] at this;rw[this,<- J];rfl
structure CpI (B:Nat) (L:List Pt) (K:Nat->Value) (lo hi:Nat->Nat) (k:Nat) (w:World):Prop where
 row:w.ownsRow B 121 5 (.slice (some ⟨B,0,none⟩) L.length L.length) L.length (zch L K)
 gs:∀ i,i<k->zvt (lo i) (hi i) w (K i) (pt L i).cm
 at' : ∀ i,i<k->B<lo i/\hi i<=w.heap.size
 ap:∀ i j,i<k->j<k->i≠j->hi i<=lo j\/hi j<=lo i
def zxH(L:List Pt):Prop:=∀ i,i<L.length->(pt L i).cm.length<=1000/\∀ j,j<(pt L i).cm.length->(gr (pt L i).cm j).length<=1000/\∀ m,m<(gr (pt L i).cm j).length->(cl (gr (pt L i).cm j) m).ks.length<=1000
def RPt(L:List Pt)(i:Nat)(y:EPt)(lo hi:Nat)(V:World):Prop:=y.o=(pt L i).o/\y.t=(pt L i).t/\y.m=(pt L i).m/\y.h=(pt L i).s/\zvt lo hi V (.slice y.ga y.gl y.gc) (pt L i).cm
theorem zpB{w:World}{g:Nat}{L:List Pt}(hN:L.length<=1000)(h:zaD zvM 121 5 L.length (RPt L) g L.length w):∃ K lo hi,CpI g L K lo hi L.length w:=by
 obtain⟨v,lo,hi,F,⟨c,T,I,J⟩,E⟩:=h;have hg:g<w.heap.size:=zay T;refine⟨fun i=>.slice (v i).ga (v i).gl (v i).gc,lo,hi,?_,fun i D=>(E i D).2.2.2.2.2.at.2.2.2.2,fun i D=>⟨(E i D).2.1,(E i D).2.2.2.1⟩,fun i j D M O=>?_⟩
 ·have e:c.toList=zch L (fun i=>.slice (v i).ga (v i).gl (v i).gc):=zhX (by simpa using I) (fun i j D M=>by
   obtain⟨U,Z,e2,e3,_⟩:=(E i D).2.2.2.2.2.at;rw[Array.getElem?_toList,J (i*5+j) (by omega),(E i D).1 j M];unfold zcY;rw[<- U,<- Z,<- e2,<- e3];rcases(by omega:j=0\/j=1\/j=2\/j=3\/j=4) with rfl|rfl|rfl|rfl|rfl <;> rfl)
  refine⟨zbO _ _,Or.inr ⟨g,L.length,c,rfl,yk _,T,yk _,by unfold maxLen;omega,I,?_⟩⟩;rw[e];exact List.take_of_length_le (by rw[zbO];exact yk _)
 ·rcases Nat.lt_or_gt_of_ne O with h|h
  ·exact Or.inl ((E j M).2.2.2.2.1 i h)
  ·exact Or.inr ((E i D).2.2.2.2.1 j h)
theorem ztg(x:Pt)(I:Option Addr)(O:Nat)(w:World)(h1:x.cm.length<=1000)(h2:∀ i,i<x.cm.length->(gr x.cm i).length<=1000/\∀ j,j<(gr x.cm i).length->(cl (gr x.cm i) j).ks.length<=1000)(hG:zkf w I x.cm) :
  Calls Tryz.prog 108 #[.agg #[.int .i64 x.o,.int .i64 x.t,.int .i64 x.m,.slice I x.cm.length O,.bool x.s]] w fun e w' => ∃ g,e=.returned (.agg #[.int .i64 x.o,.int .i64 x.t,.int .i64 x.m,.slice (some ⟨g,0,none⟩) x.cm.length x.cm.length,.bool x.s])/\Below w.heap.size w w' /\ w.heap.size<=g/\zaD zxK 47 1 x.cm.length (RGr x.cm) g x.cm.length w' := by
 have D:Hid (∀ W,Below w.heap.size w W->Calls _ _ _ _ _):=fun W hW=>zoi I O x.cm W h1 h2 (hG.below hW);clear hG h1 h2;obtain⟨xo,xt,Z,xc,xs⟩:=x;dsimp only at D |-;generalize xc.length=l at *
 go_enter Tryz.func108,Tryz.ntmps108
 go_wp2_with fail
 obtain⟨V,F⟩:∃ V,(w.alloc (.cells #[.int .i64 xo,.int .i64 xt,.int .i64 Z,.slice I l O,.bool xs] 121)).alloc (.cells #[.int .i64 0,.int .i64 0,.int .i64 0,.slice none 0 0,.bool false] 121)=V:=⟨_,rfl⟩;have T:V.cell? ⟨w.heap.size,0,none⟩=some (.int .i64 xo):=by rw[<- F];exact zaB _ _ _ 0 _ rfl
 have v1:V.cell? ⟨w.heap.size,1,none⟩=some (.int .i64 xt):=by rw[<- F];exact zaB _ _ _ 1 _ rfl
 have v2:V.cell? ⟨w.heap.size,2,none⟩=some (.int .i64 Z):=by rw[<- F];exact zaB _ _ _ 2 _ rfl
 have v3:V.cell? ⟨w.heap.size,3,none⟩=some (.slice I l O):=by rw[<- F];exact zaB _ _ _ 3 _ rfl
 have v4:V.cell? ⟨w.heap.size,4,none⟩=some (.bool xs):=by rw[<- F];exact zaB _ _ _ 4 _ rfl
 have J:V.cell? ⟨w.heap.size+1,0,none⟩=some (.int .i64 0):=by rw[<- F];exact zaC _ _ _ 0 _ rfl
 have z1:V.cell? ⟨w.heap.size+1,1,none⟩=some (.int .i64 0):=by rw[<- F];exact zaC _ _ _ 1 _ rfl
 have z2:V.cell? ⟨w.heap.size+1,2,none⟩=some (.int .i64 0):=by rw[<- F];exact zaC _ _ _ 2 _ rfl
 have z3:V.cell? ⟨w.heap.size+1,3,none⟩=some (.slice none 0 0):=by rw[<- F];exact zaC _ _ _ 3 _ rfl
 have z4:V.cell? ⟨w.heap.size+1,4,none⟩=some (.bool false):=by rw[<- F];exact zaC _ _ _ 4 _ rfl
 have zf:∀ o,V.frozen? ⟨w.heap.size+1,o,none⟩=false:=fun o=>by rw[<- F];exact ziW _ _ _ _ _
 have vf:∀ o,V.frozen? ⟨w.heap.size,o,none⟩=false:=fun o=>by rw[<- F];exact zsG _ _ _ _ _
 have M:Hid (Below w.heap.size w V):=by rw[<- F];exact zah _ _ _
 have sV:w.heap.size+1<V.heap.size:=ye _ _ J;have U:w.heap.size<V.heap.size:=ye _ _ T;rw[F];clear F;refine yi (D.out _ M.out) ?_;rintro e w3 ⟨rfl,E,h3⟩;have H3:Hid (zaD zxK 47 1 l (RGr xc) V.heap.size l w3):=h3;have B3:Hid (Below w.heap.size w w3):=M.out.trans (E.mono M.out.size);replace T:=zab T E;replace v1:=zab v1 E;replace v2:=zab v2 E;replace v3:=zab v3 E;replace v4:=zab v4 E;replace J:=zab J E;replace z1:=zab z1 E;replace z2:=zab z2 E;replace z3:=zab z3 E;replace z4:=zab z4 E;have fz:=fun o=>(E.frozen (show (⟨w.heap.size+1,o,none⟩:Addr).block<V.heap.size from sV)).trans (zf o);have fv:=fun o=>(E.frozen (show (⟨w.heap.size,o,none⟩:Addr).block<V.heap.size from U)).trans (vf o);have s3:w.heap.size+1<w3.heap.size:=ye _ _ J;have s30:w.heap.size<w3.heap.size:=ye _ _ T;clear E h3 zf vf
 go_wp2
 refine yw (v:=.agg #[.int .i64 xo,.int .i64 xt,.int .i64 Z,.slice (some ⟨V.heap.size,0,none⟩) l l,.bool xs]) (by simp[results,Tryz.results108,go_sem,J,z1,z2,z3,z4]) rfl ⟨V.heap.size,rfl,?_,M.out.size,?_⟩
 ·exact(((((B3.out.setCell (by simp) _).setCell (by simp) _).setCell (by simp) _).setCell (by simp) _).setCell (by simp) _).setCell (by simp) _
 ·exact(((((H3.out.set (by omega) _).set (by omega) _).set (by omega) _).set (by omega) _).set (by omega) _).set (by omega) _
theorem zqO(a:Option Addr)(c:Nat)(L:List Pt)(w:World)(Z:L.length<=12)(E:zxH L)(M:zdH w a L) :
  Calls Tryz.prog 107 #[.slice a L.length c,.func (.func 108) #[] #[]] w fun e w' => e=.returned (.slice (some ⟨w.heap.size,0,none⟩) L.length L.length)/\Below w.heap.size w w' /\ zaD zvM 121 5 L.length (RPt L) w.heap.size L.length w' := by
 obtain⟨f,F⟩:=Classical.skolem.1 (fun i=>show ∃ x:Option Addr × Nat,i<L.length->(∃ b o,a=some ⟨b,o,none⟩/\w.cell? ⟨b,o+i*5,none⟩=some (.int .i64 (pt L i).o)/\w.cell? ⟨b,o+i*5+1,none⟩=some (.int .i64 (pt L i).t)/\w.cell? ⟨b,o+i*5+2,none⟩=some (.int .i64 (pt L i).m)/\w.cell? ⟨b,o+i*5+3,none⟩=some (.slice x.1 (pt L i).cm.length x.2)/\w.cell? ⟨b,o+i*5+4,none⟩=some (.bool (pt L i).s))/\zkf w x.1 (pt L i).cm by
  by_cases hi:i<L.length
  ·obtain⟨b,o,e,c0,c1,c2,I,J,c3,hg,c4⟩:=M i hi;exact⟨(I,J),fun _=>⟨⟨b,o,e,c0,c1,c2,c3,c4⟩,hg.2⟩⟩
  ·exact⟨(none,0),fun h=>absurd h hi⟩)
 refine zzX 108 (yK Tryz.func108 (by kernel_rfl) rfl) a c L.length (fun i=>⟨(pt L i).o,(pt L i).t,(pt L i).m,(f i).1,(pt L i).cm.length,(f i).2,(pt L i).s⟩) (RPt L) w (by omega) (fun i hi=>(F i hi).1) (fun i hi W O=>?_);refine(ztg (pt L i) (f i).1 (f i).2 W (E i hi).1 (E i hi).2 ((F i hi).2.below O)).mono ?_;rintro e w' ⟨g,rfl,D,hg,U⟩;exact⟨⟨(pt L i).o,(pt L i).t,(pt L i).m,some ⟨g,0,none⟩,(pt L i).cm.length,(pt L i).cm.length,(pt L i).s⟩,rfl,D,fun w2 T=>⟨rfl,rfl,rfl,rfl,(zvt.made U hg (yk _)).off T (fun b D=>D)⟩⟩
theorem zjc(a:Option Addr)(c:Nat)(L:List Pt)(w:World)(O:L.length<=12)(I:zxH L)(J:zdH w a L) :
  Calls Tryz.prog 78 #[.slice a L.length c] w fun e w' => e=.returned (.slice (some ⟨w.heap.size,0,none⟩) L.length L.length)/\Below w.heap.size w w' /\ zaD zvM 121 5 L.length (RPt L) w.heap.size L.length w' := by
 have D:Hid (Calls _ _ _ _ _):=zqO a c L w O I J;clear I J;generalize L.length=n at *
 go_enter Tryz.func78,Tryz.ntmps78
 go_wp2_with (go_at_call 107;refine D.out.mono ?_;rintro e w3 ⟨rfl,E,F⟩;have M:Hid _:=F;clear F)
 go_ret;exact⟨rfl,E,M.out⟩
theorem zed(a:Option Addr)(c:Nat)(L:List Pt)(w:World)(I:L.length<=12)(E:zxH L)(F:zdH w a L) :
  Calls Tryz.prog 78 #[.slice a L.length c] w fun e w' => ∃ K lo hi,e=.returned (.slice (some ⟨w.heap.size,0,none⟩) L.length L.length)/\Below w.heap.size w w' /\ CpI w.heap.size L K lo hi L.length w' := by
 refine(zjc a c L w I E F).mono ?_;rintro e w' ⟨rfl,J,h⟩;obtain⟨K,lo,hi,D⟩:=zpB (by omega) h;exact⟨K,lo,hi,rfl,J,D⟩
end Go.Proofs.YtcbcpomacdngmaaGreat
