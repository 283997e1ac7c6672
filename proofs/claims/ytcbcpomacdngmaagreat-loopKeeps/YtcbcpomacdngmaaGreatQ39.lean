/-
  x
-/
import Derived.Test.YtcbcpomacdngmaaGreatQ36
namespace Go.Proofs.YtcbcpomacdngmaaGreat
set_option maxRecDepth 100000
set_option maxHeartbeats 4000000
set_option linter.unusedVariables false
open Go.RowKit Go.ChangeShapes Go.WideShapes
theorem zwB(w:World)(R:Rl)(x:Ac)(wf:WF R.s)(hl:R.hs.length=16)(ha:isH x.a)(b0:isH x.b)(b9:x.c<0):zmr 177 #[] w R x (zdQ R (hd R x.a) (hd R x.b) []):=fun d h g A V I=>by
 unfold zdQ;rw[zlt];obtain⟨J,a5⟩:∃ l:List (Int × Int),[]=l:=⟨_,rfl⟩;have hm:J.length<=1:=by rw[<- a5];decide
 have h0:J.length=0:=by rw[<- a5];rfl
 rw[a5];obtain⟨a0,a1,a2,a3,c0,c1,c2,c3⟩:=A;obtain rfl:a0=some ⟨g,0,none⟩:=I.a0;obtain rfl:a1=some ⟨h,0,none⟩:=I.a1;obtain⟨xk,xa,xb,xc,xn⟩:=x;obtain⟨p,hp,c6⟩:=zmu ha;dsimp only at hp;subst hp;obtain⟨u0,u1⟩:=I.hand (k:=p) (by omega);obtain⟨r,hr,c7⟩:=zmu b0;dsimp only at hr;subst hr;obtain⟨v0,v1⟩:=I.hand (k:=r) (by omega);have II:Hid (WI w R d h g _ V):=I;obtain⟨l0,l1,l2,l3,fz,lt⟩:=zaj I.box;dsimp only at l0 l1 l2 l3;rw[hl] at l1;have d4:d<V.heap.size:=lt;have d5:h<V.heap.size:=ye _ _ u0;have d6:(p:Int)<16:=by omega
 have d7:(r:Int)<16:=by omega
 show Calls Tryz.prog _ #[.pointer (some ⟨d,0,none⟩),.agg #[.int .i64 xk,.int .i64 p,.int .i64 r,.int .i64 xc,.int .i64 xn]] V _;obtain⟨ns,a9⟩:∃ n,R.s.length=n:=⟨_,rfl⟩;have c8:Hid (R.s.length=ns):=a9;have D:Hid (∀ (ha:Option Addr) (hc:Nat) W,Below V.heap.size V W->zau W ha J->Calls Tryz.prog 192 #[.agg #[.slice (some ⟨g,0,none⟩) R.s.length c0],.agg #[.int .i64 (hd R (p:Int)).1,.int .i64 (hd R (p:Int)).2],.agg #[.int .i64 (hd R (r:Int)).1,.int .i64 (hd R (r:Int)).2],.slice ha J.length hc] W fun e w' => ∃ a' c', e=.returned (.tuple #[.agg #[.slice a' (rS (zkd R.s (hd R (p:Int)).1 (hd R (p:Int)).2 (hd R (r:Int)).1 (hd R (r:Int)).2 J) (zpO R.s (hd R (p:Int)).1 (hd R (r:Int)).1 J)).length c'],.int .i64 (zkd R.s (hd R (p:Int)).1 (hd R (p:Int)).2 (hd R (r:Int)).1 (hd R (r:Int)).2 J)])/\Below W.heap.size W w' /\ St (fun b=>b<W.heap.size) (fun V=>zai V a' (rS (zkd R.s (hd R (p:Int)).1 (hd R (p:Int)).2 (hd R (r:Int)).1 (hd R (r:Int)).2 J) (zpO R.s (hd R (p:Int)).1 (hd R (r:Int)).1 J))) w'):=fun ha hc W hW hH=>zkU R.s _ _ J ha hc wf hm (some ⟨g,0,none⟩) c0 W (I.nds.below hW) hH;clear ha b0 hl;generalize hd R (p:Int)=hA at *;obtain⟨P,U⟩:=hA;generalize hd R (r:Int)=hB at *;obtain⟨P2,U2⟩:=hB;dsimp only at u0 u1 v0 v1 D |-;obtain⟨E,hE⟩:∃ E,zkd R.s P U P2 U2 J=E:=⟨_,rfl⟩;obtain⟨T,hT⟩:∃ T,zpO R.s P P2 J=T:=⟨_,rfl⟩;rw[hE,hT] at D;rw[hE,hT];clear hE hT;rw[a9] at D l0;clear a9 I hm;have HH:Hid (∀ W:World,zau W none J):=fun W i hi=>by omega
 rw[h0] at D;clear h0 a5;dsimp only at b9
 go_enter Tryz.func177,Tryz.ntmps177
 go_upto_region 6 with fail
 obtain⟨F,O⟩:∃ F,V.alloc (.cells #[.int .i64 xk,.int .i64 p,.int .i64 r,.int .i64 xc,.int .i64 xn] 36)=F:=⟨_,rfl⟩;have BV:Hid (Below V.heap.size V F):=by rw[<- O];exact zaa _ _
 have y0:F.cell? ⟨V.heap.size,0,none⟩=some (.int .i64 xk):=by rw[<- O];exact zad _ _ _ 0 rfl
 have y1:F.cell? ⟨V.heap.size,1,none⟩=some (.int .i64 p):=by rw[<- O];exact zad _ _ _ 1 rfl
 have y2:F.cell? ⟨V.heap.size,2,none⟩=some (.int .i64 r):=by rw[<- O];exact zad _ _ _ 2 rfl
 have y3:F.cell? ⟨V.heap.size,3,none⟩=some (.int .i64 xc):=by rw[<- O];exact zad _ _ _ 3 rfl
 have y4:F.cell? ⟨V.heap.size,4,none⟩=some (.int .i64 xn):=by rw[<- O];exact zad _ _ _ 4 rfl
 have sV:V.heap.size<F.heap.size:=ye _ _ y0;rw[O];clear O;replace u0:=zab u0 BV.out;replace u1:=zab u1 BV.out;replace l0:=zab l0 BV.out;replace l1:=zab l1 BV.out;replace l2:=zab l2 BV.out;replace l3:=zab l3 BV.out;have n0:¬ F.heap.size=d:=by omega
 have o0:¬ d=F.heap.size:=by omega
 have n1:¬ F.heap.size=h:=by omega
 have o1:¬ h=F.heap.size:=by omega
 have n2:¬ F.heap.size=V.heap.size:=by omega
 have o2:¬ V.heap.size=F.heap.size:=by omega
 have d8:d<F.heap.size:=by omega
 have d9:h<F.heap.size:=by omega
 clear fz lt;replace v0:=zab v0 BV.out;replace v1:=zab v1 BV.out
 go_cut [7,8] (fun s7 s8 wx=>∃ (b:Nat) (a' : Option Addr) (c' : Nat),s7=.pointer (some ⟨b,0,none⟩)/\s8=.int .i64 E/\Hid (Below F.heap.size F wx)/\Hid (St (fun b=>b<F.heap.size) (fun V=>zai V a' (rS E T)) wx)/\wx.cell? ⟨b,0,none⟩=some (.slice a' (rS E T).length c')/\F.heap.size<=b)
 case first =>
  go_region_held3 (fun Z=>Z.cell? ⟨d,0,none⟩=some (.slice (some ⟨g,0,none⟩) ns c0)/\Z.cell? ⟨d,1,none⟩=some (.slice (some ⟨h,0,none⟩) 16 c1)/\Z.cell? ⟨h,p*2,none⟩=some (.int .i64 P)/\Z.cell? ⟨h,p*2+1,none⟩=some (.int .i64 U)/\Z.cell? ⟨h,r*2,none⟩=some (.int .i64 P2)/\Z.cell? ⟨h,r*2+1,none⟩=some (.int .i64 U2)/\Z.cell? ⟨V.heap.size,1,none⟩=some (.int .i64 p)/\Z.cell? ⟨V.heap.size,2,none⟩=some (.int .i64 r)) (go_keep) (first|(go_at_call 192;refine yi (D.out none 0 F.drew BV.out.drew ((HH.out F).below (yr _ _).drew)) ?_;rintro e w3 ⟨a', c', rfl,a6,a7⟩;have M:Hid (Below F.heap.size F w3):=(yr _ _).drew.trans a6;have N3:Hid (St (fun b=>b<F.heap.size) (fun V=>zai V a' (rS E T)) w3):=a7;have b1:=zab l0 M.out;have b2:=zab l1 M.out;have b3:=zab u0 M.out;have b4:=zab u1 M.out;have b5:=zab v0 M.out;have b6:=zab v1 M.out;have b7:=zab y1 M.out;have b8:=zab y2 M.out;clear a6 a7)|(go_at_call 192;refine yi (D.out none 0 (F.alloc (.cells #[.slice none 0 0] 43)).drew (BV.out.trans ((zaa F _).mono BV.out.size)).drew ((HH.out F).below (zaa F _).drew)) ?_;rintro e w3 ⟨a', c', rfl,a6,a7⟩;have M:Hid (Below F.heap.size F w3):=(zaa F _).drew.trans (a6.mono (by simp));have N3:Hid (St (fun b=>b<F.heap.size+1) (fun V=>zai V a' (rS E T)) w3):=(by have h:=a7;simp only[ys,World.size_drew] at h;exact h);have b1:=zab l0 M.out;have b2:=zab l1 M.out;have b3:=zab u0 M.out;have b4:=zab u1 M.out;have b5:=zab v0 M.out;have b6:=zab v1 M.out;have b7:=zab y1 M.out;have b8:=zab y2 M.out;have X3:Hid (w3.heap[F.heap.size]?=some (.cells #[.slice none 0 0] 43 (0,0))):=zat (W:=(F.alloc (.cells #[.slice none 0 0] 43)).drew) (yL F _) a6;have x3:=zaJ X3.out;have xf:=zaW (o:=0) X3.out;have xl:F.heap.size<w3.heap.size:=zay X3.out;clear a6 a7))
  ·go_wp2_with fail
   go_meet
   case rel=>exact⟨_,_,_,rfl,rfl,zBs _ _ (yr F.heap.size F) M.out N3.out⟩
  ·go_wp2_with fail
   go_meet
   case rel=>exact⟨_,_,_,rfl,rfl,zBt _ (yr F.heap.size F) M.out N3.out X3.out⟩
 case rest =>
  obtain⟨b,a', c', rfl,rfl,HB,HN,a8,c9⟩:=hcut;have I2:Hid _:=II.out.below (BV.out.trans (HB.out.mono BV.out.size));have HS:Hid _:=I2.out.store c' HN.out (by have h1:=II.out.base;have h2:=BV.out.size;omega);obtain⟨m0,m1,m2,m3,mf,ml⟩:=zaj I2.out.box;have bl:b<wc.heap.size:=ye _ _ a8;have e0:¬ b=d:=by omega
  clear II D u0 u1 v0 v1 l0 l1 y1 y2
  go_wp2
  refine yw (v:=.tuple #[.int .i64 0,.int .i64 E]) (by simp[results,Tryz.results177,go_sem]) rfl ⟨0,rfl,HS.out.1,fun hE=>?_⟩;rw[zls hE];have h2:=HS.out.2;rw[hE,zic] at h2;rw[hE,zic];exact⟨rfl,_,h2⟩
theorem ztN(w:World)(R:Rl)(x:Ac)(wf:WF R.s)(hl:R.hs.length=16)(ha:isH x.a)(a6:isH x.b)(a7:¬ x.c<0)(a8:¬ isH x.c):zmr 177 #[] w R x (bad 4):=fun d h g A V I=>by
 rw[(zod 4).2.2];obtain⟨a0,a1,a2,a3,c0,c1,c2,c3⟩:=A;obtain rfl:a0=some ⟨g,0,none⟩:=I.a0;obtain rfl:a1=some ⟨h,0,none⟩:=I.a1;obtain⟨xk,xa,xb,Z,xn⟩:=x;obtain⟨p,hp,a9⟩:=zmu ha;dsimp only at hp;subst hp;obtain⟨u0,u1⟩:=I.hand (k:=p) (by omega);obtain⟨r,hr,b0⟩:=zmu a6;dsimp only at hr;subst hr;obtain⟨v0,v1⟩:=I.hand (k:=r) (by omega);have II:Hid (WI w R d h g _ V):=I;obtain⟨l0,l1,l2,l3,fz,lt⟩:=zaj I.box;dsimp only at l0 l1 l2 l3;rw[hl] at l1;have b8:d<V.heap.size:=lt;have b9:h<V.heap.size:=ye _ _ u0;have c6:(p:Int)<16:=by omega
 have c7:(r:Int)<16:=by omega
 show Calls Tryz.prog _ #[.pointer (some ⟨d,0,none⟩),.agg #[.int .i64 xk,.int .i64 p,.int .i64 r,.int .i64 Z,.int .i64 xn]] V _;obtain⟨ns,J⟩:∃ n,R.s.length=n:=⟨_,rfl⟩;have b1:Hid (R.s.length=ns):=J;have DH:Hid (∀ W,Calls _ _ _ _ _):=fun W=>zcK ⟨some ⟨g,0,none⟩,some ⟨h,0,none⟩,a2,a3,c0,c1,c2,c3⟩ R Z W hl;dsimp only[rlV] at DH;rw[hl] at DH;rw[yF a8] at DH;obtain⟨ni,M⟩:∃ n,R.i.length=n:=⟨_,rfl⟩;obtain⟨nt,O⟩:∃ n,R.t.length=n:=⟨_,rfl⟩;rw[J,M,O] at DH;rw[M] at l2;rw[O] at l3;clear M O;rw[J] at l0;dsimp only at a7;have b7:0<=Z:=by omega
 clear ha a6 hl J I a8 a7 u0 u1 v0 v1 wf
 go_enter Tryz.func177,Tryz.ntmps177
 go_upto_region 3 with fail
 obtain⟨D,E⟩:∃ D,V.alloc (.cells #[.int .i64 xk,.int .i64 p,.int .i64 r,.int .i64 Z,.int .i64 xn] 36)=D:=⟨_,rfl⟩;have U:Hid (Below V.heap.size V D):=by rw[<- E];exact zaa _ _
 have y0:D.cell? ⟨V.heap.size,0,none⟩=some (.int .i64 xk):=by rw[<- E];exact zad _ _ _ 0 rfl
 have y1:D.cell? ⟨V.heap.size,1,none⟩=some (.int .i64 p):=by rw[<- E];exact zad _ _ _ 1 rfl
 have y2:D.cell? ⟨V.heap.size,2,none⟩=some (.int .i64 r):=by rw[<- E];exact zad _ _ _ 2 rfl
 have y3:D.cell? ⟨V.heap.size,3,none⟩=some (.int .i64 Z):=by rw[<- E];exact zad _ _ _ 3 rfl
 have y4:D.cell? ⟨V.heap.size,4,none⟩=some (.int .i64 xn):=by rw[<- E];exact zad _ _ _ 4 rfl
 have sV:V.heap.size<D.heap.size:=ye _ _ y0;rw[E];clear E;replace l0:=zab l0 U.out;replace l1:=zab l1 U.out;replace l2:=zab l2 U.out;replace l3:=zab l3 U.out;have n0:¬ D.heap.size=d:=by omega
 have o0:¬ d=D.heap.size:=by omega
 have n1:¬ D.heap.size=h:=by omega
 have o1:¬ h=D.heap.size:=by omega
 have n2:¬ D.heap.size=V.heap.size:=by omega
 have o2:¬ V.heap.size=D.heap.size:=by omega
 have c8:d<D.heap.size:=by omega
 have c9:h<D.heap.size:=by omega
 clear fz lt
 go_region_held3 (fun F=>F.cell? ⟨d,0,none⟩=some (.slice (some ⟨g,0,none⟩) ns c0)/\F.cell? ⟨d,1,none⟩=some (.slice (some ⟨h,0,none⟩) 16 c1)/\F.cell? ⟨d,2,none⟩=some (.slice a2 ni c2)/\F.cell? ⟨d,3,none⟩=some (.slice a3 nt c3)/\F.cell? ⟨V.heap.size,3,none⟩=some (.int .i64 Z)) (go_keep) (first|(go_at_call 161;refine yi (DH.out D.drew) ?_;rintro e w2 ⟨rfl,a5⟩;have T:Hid (Below D.heap.size D w2):=(yr _ _).drew.trans a5;have b2:=zab l0 T.out;have b3:=zab l1 T.out;have b4:=zab l2 T.out;have b5:=zab l3 T.out;have b6:=zab y3 T.out;clear a5))
 have I2:Hid _:=II.out.below (U.out.trans (T.out.mono U.out.size))
 go_wp2
 refine yw (v:=.tuple #[.int .i64 0,.int .i64 4]) (by simp[results,Tryz.results177,go_sem]) rfl ?_
 first|exact⟨0,rfl,I2.out.bel,fun hE=>absurd hE (by decide)⟩|exact⟨⟨0,rfl⟩,I2.out.bel⟩
theorem zrc{W:World}{b:Nat}{x y:Int}(h0:W.cell? ⟨b,0,none⟩=some (.int .i64 x))(h1:W.cell? ⟨b,1,none⟩=some (.int .i64 y)):zau W (some ⟨b,0,none⟩) [(x,y)]:=fun i hi=>by
 obtain rfl:i=0:=by simpa using hi
 exact⟨b,0,rfl,h0,h1⟩
theorem zwC(w:World)(R:Rl)(x:Ac)(wf:WF R.s)(hl:R.hs.length=16)(ha:isH x.a)(c6:isH x.b)(b4:isH x.c):zmr 177 #[] w R x (zdQ R (hd R x.a) (hd R x.b) [hd R x.c]):=fun d h g A V I=>by
 unfold zdQ;rw[zlt];obtain⟨M,Z⟩:∃ l:List (Int × Int),[hd R x.c]=l:=⟨_,rfl⟩;have hm:M.length<=1:=by rw[<- Z];simp
 have h0:M.length=1:=by rw[<- Z];rfl
 rw[Z];obtain⟨a0,a1,a2,a3,c0,c1,c2,c3⟩:=A;obtain rfl:a0=some ⟨g,0,none⟩:=I.a0;obtain rfl:a1=some ⟨h,0,none⟩:=I.a1;obtain⟨xk,xa,xb,xc,xn⟩:=x;obtain⟨p,hp,e8⟩:=zmu ha;dsimp only at hp;subst hp;obtain⟨u0,u1⟩:=I.hand (k:=p) (by omega);obtain⟨r,hr,e9⟩:=zmu c6;dsimp only at hr;subst hr;obtain⟨v0,v1⟩:=I.hand (k:=r) (by omega);have II:Hid (WI w R d h g _ V):=I;obtain⟨l0,l1,l2,l3,fz,lt⟩:=zaj I.box;dsimp only at l0 l1 l2 l3;rw[hl] at l1;have g9:d<V.heap.size:=lt;have h3:h<V.heap.size:=ye _ _ u0;have h4:(p:Int)<16:=by omega
 have h6:(r:Int)<16:=by omega
 obtain⟨s,hs,g0⟩:=zmu b4;dsimp only at hs;subst hs;dsimp only at Z;have b8:decide (isH (s:Int))=true:=yG b4;obtain⟨t0,t1⟩:=I.hand (k:=s) (by omega);have h7:(s:Int)<16:=by omega
 show Calls Tryz.prog _ #[.pointer (some ⟨d,0,none⟩),.agg #[.int .i64 xk,.int .i64 p,.int .i64 r,.int .i64 s,.int .i64 xn]] V _;obtain⟨ns,b0⟩:∃ n,R.s.length=n:=⟨_,rfl⟩;have g7:Hid (R.s.length=ns):=b0;have D:Hid (∀ (ha:Option Addr) (hc:Nat) W,Below V.heap.size V W->zau W ha M->Calls Tryz.prog 192 #[.agg #[.slice (some ⟨g,0,none⟩) R.s.length c0],.agg #[.int .i64 (hd R (p:Int)).1,.int .i64 (hd R (p:Int)).2],.agg #[.int .i64 (hd R (r:Int)).1,.int .i64 (hd R (r:Int)).2],.slice ha M.length hc] W fun e w' => ∃ a' c', e=.returned (.tuple #[.agg #[.slice a' (rS (zkd R.s (hd R (p:Int)).1 (hd R (p:Int)).2 (hd R (r:Int)).1 (hd R (r:Int)).2 M) (zpO R.s (hd R (p:Int)).1 (hd R (r:Int)).1 M)).length c'],.int .i64 (zkd R.s (hd R (p:Int)).1 (hd R (p:Int)).2 (hd R (r:Int)).1 (hd R (r:Int)).2 M)])/\Below W.heap.size W w' /\ St (fun b=>b<W.heap.size) (fun V=>zai V a' (rS (zkd R.s (hd R (p:Int)).1 (hd R (p:Int)).2 (hd R (r:Int)).1 (hd R (r:Int)).2 M) (zpO R.s (hd R (p:Int)).1 (hd R (r:Int)).1 M))) w'):=fun ha hc W hW hH=>zkU R.s _ _ M ha hc wf hm (some ⟨g,0,none⟩) c0 W (I.nds.below hW) hH;have DH:Hid (∀ W,Calls _ _ _ _ _):=fun W=>zcK ⟨some ⟨g,0,none⟩,some ⟨h,0,none⟩,a2,a3,c0,c1,c2,c3⟩ R (s:Int) W hl;dsimp only[rlV] at DH;rw[hl] at DH;rw[b8] at DH;obtain⟨ni,b5⟩:∃ n,R.i.length=n:=⟨_,rfl⟩;obtain⟨nt,b6⟩:∃ n,R.t.length=n:=⟨_,rfl⟩;rw[b0,b5,b6] at DH;rw[b5] at l2;rw[b6] at l3;clear b5 b6;have HH:Hid ([hd R (s:Int)]=M):=Z;clear b4 b8 Z;clear ha c6 hl;generalize hd R (p:Int)=hA at *;obtain⟨P,U⟩:=hA
 generalize hd R (r:Int)=hB at *;obtain⟨P2,U2⟩:=hB;dsimp only at u0 u1 v0 v1 D |-;obtain⟨E,hE⟩:∃ E,zkd R.s P U P2 U2 M=E:=⟨_,rfl⟩;obtain⟨T,hT⟩:∃ T,zpO R.s P P2 M=T:=⟨_,rfl⟩;rw[hE,hT] at D;rw[hE,hT];clear hE hT;rw[b0] at D l0;clear b0 I hm;rw[h0] at D;clear h0;generalize hd R (s:Int)=hC at *;obtain⟨P3,U3⟩:=hC;dsimp only at t0 t1
 go_enter Tryz.func177,Tryz.ntmps177
 go_upto_region 3 with fail
 obtain⟨O,a5⟩:∃ O,V.alloc (.cells #[.int .i64 xk,.int .i64 p,.int .i64 r,.int .i64 s,.int .i64 xn] 36)=O:=⟨_,rfl⟩;have BV:Hid (Below V.heap.size V O):=by rw[<- a5];exact zaa _ _
 have y0:O.cell? ⟨V.heap.size,0,none⟩=some (.int .i64 xk):=by rw[<- a5];exact zad _ _ _ 0 rfl
 have y1:O.cell? ⟨V.heap.size,1,none⟩=some (.int .i64 p):=by rw[<- a5];exact zad _ _ _ 1 rfl
 have y2:O.cell? ⟨V.heap.size,2,none⟩=some (.int .i64 r):=by rw[<- a5];exact zad _ _ _ 2 rfl
 have y3:O.cell? ⟨V.heap.size,3,none⟩=some (.int .i64 s):=by rw[<- a5];exact zad _ _ _ 3 rfl
 have y4:O.cell? ⟨V.heap.size,4,none⟩=some (.int .i64 xn):=by rw[<- a5];exact zad _ _ _ 4 rfl
 have sV:V.heap.size<O.heap.size:=ye _ _ y0;rw[a5];clear a5;replace u0:=zab u0 BV.out;replace u1:=zab u1 BV.out;replace l0:=zab l0 BV.out;replace l1:=zab l1 BV.out;replace l2:=zab l2 BV.out;replace l3:=zab l3 BV.out;have n0:¬ O.heap.size=d:=by omega
 have o0:¬ d=O.heap.size:=by omega
 have n1:¬ O.heap.size=h:=by omega
 have o1:¬ h=O.heap.size:=by omega
 have n2:¬ O.heap.size=V.heap.size:=by omega
 have o2:¬ V.heap.size=O.heap.size:=by omega
 have c7:d<O.heap.size:=by omega
 have c8:h<O.heap.size:=by omega
 clear fz lt;replace v0:=zab v0 BV.out;replace v1:=zab v1 BV.out;replace t0:=zab t0 BV.out;replace t1:=zab t1 BV.out
 go_region_held3 (fun F=>F.cell? ⟨d,0,none⟩=some (.slice (some ⟨g,0,none⟩) ns c0)/\F.cell? ⟨d,1,none⟩=some (.slice (some ⟨h,0,none⟩) 16 c1)/\F.cell? ⟨d,2,none⟩=some (.slice a2 ni c2)/\F.cell? ⟨d,3,none⟩=some (.slice a3 nt c3)/\F.cell? ⟨V.heap.size,3,none⟩=some (.int .i64 s)) (go_keep) (first|(go_at_call 161;refine yi (DH.out O.drew) ?_;rintro e w2 ⟨rfl,b9⟩;have B2:Hid (Below O.heap.size O w2):=(yr _ _).drew.trans b9;have b1:=zab l0 B2.out;have b2:=zab l1 B2.out;have c9:=zab l2 B2.out;have d4:=zab l3 B2.out;have e7:=zab y3 B2.out;clear b9))
 clear b1 b2 c9 d4 e7;replace l0:=zab l0 B2.out;replace l1:=zab l1 B2.out;replace u0:=zab u0 B2.out;replace u1:=zab u1 B2.out;replace v0:=zab v0 B2.out;replace v1:=zab v1 B2.out;replace t0:=zab t0 B2.out;replace t1:=zab t1 B2.out;replace y1:=zab y1 B2.out;replace y2:=zab y2 B2.out;replace y3:=zab y3 B2.out;have b7:Hid (Below V.heap.size V w2):=BV.out.trans (B2.out.mono BV.out.size);have s2:=B2.out.size;have g4:d<w2.heap.size:=by omega
 have g5:h<w2.heap.size:=by omega
 have g6:V.heap.size<w2.heap.size:=by omega
 have e0:¬ w2.heap.size=d:=by omega
 have e1:¬ w2.heap.size=h:=by omega
 have e2:¬ w2.heap.size=V.heap.size:=by omega
 have e3:¬ d=w2.heap.size:=by omega
 have e4:¬ h=w2.heap.size:=by omega
 have e5:¬ V.heap.size=w2.heap.size:=by omega
 clear n0 n1 n2 o0 o1 o2 c7 c8 B2 BV l2 l3 y0 y4 DH sV
 go_wp2_with fail
 go_region_held3 (fun F=>F.cell? ⟨d,1,none⟩=some (.slice (some ⟨h,0,none⟩) 16 c1)/\F.cell? ⟨h,s*2,none⟩=some (.int .i64 P3)/\F.cell? ⟨h,s*2+1,none⟩=some (.int .i64 U3)/\F.cell? ⟨V.heap.size,3,none⟩=some (.int .i64 s)) (go_keep) (fail)
 go_upto_region 6 with fail
 obtain⟨J,a9⟩:∃ J,(w2.alloc (.cells #[.int .i64 P3,.int .i64 U3] 61)).drew=J:=⟨_,rfl⟩;have B4:Hid (Below w2.heap.size w2 J):=by rw[<- a9];exact(zaa _ _).drew
 have a6:Hid (Below V.heap.size V J):=b7.out.trans (B4.out.mono b7.out.size);have X4:Hid (J.heap[w2.heap.size]?=some (.cells #[.int .i64 P3,.int .i64 U3] 61 (0,0))):=by rw[<- a9];exact yL w2 _
 rw[a9];clear a9;obtain⟨j0,j1,jl⟩:=zbl X4.out;have H4:Hid (zau J (some ⟨w2.heap.size,0,none⟩) M):=by rw[<- HH.out];exact zrc j0 j1
 have s4:=B4.out.size;replace l0:=zab l0 B4.out;replace l1:=zab l1 B4.out;replace u0:=zab u0 B4.out;replace u1:=zab u1 B4.out;replace v0:=zab v0 B4.out;replace v1:=zab v1 B4.out;replace y1:=zab y1 B4.out;replace y2:=zab y2 B4.out;clear t0 t1 y3 j0 j1 e0 e1 e2 e3 e4 e5;have c7:d<J.heap.size:=by omega
 have c8:h<J.heap.size:=by omega
 have h8:V.heap.size<J.heap.size:=by omega
 have n0:¬ J.heap.size=d:=by omega
 have n1:¬ J.heap.size=h:=by omega
 have n2:¬ J.heap.size=V.heap.size:=by omega
 have o0:¬ d=J.heap.size:=by omega
 have o1:¬ h=J.heap.size:=by omega
 have o2:¬ V.heap.size=J.heap.size:=by omega
 go_cut [7,8] (fun s7 s8 wx=>∃ (b:Nat) (a' : Option Addr) (c' : Nat),s7=.pointer (some ⟨b,0,none⟩)/\s8=.int .i64 E/\Hid (Below J.heap.size J wx)/\Hid (St (fun b=>b<J.heap.size) (fun V=>zai V a' (rS E T)) wx)/\wx.cell? ⟨b,0,none⟩=some (.slice a' (rS E T).length c')/\J.heap.size<=b)
 case first =>
  go_region_held3 (fun F=>F.cell? ⟨d,0,none⟩=some (.slice (some ⟨g,0,none⟩) ns c0)/\F.cell? ⟨d,1,none⟩=some (.slice (some ⟨h,0,none⟩) 16 c1)/\F.cell? ⟨h,p*2,none⟩=some (.int .i64 P)/\F.cell? ⟨h,p*2+1,none⟩=some (.int .i64 U)/\F.cell? ⟨h,r*2,none⟩=some (.int .i64 P2)/\F.cell? ⟨h,r*2+1,none⟩=some (.int .i64 U2)/\F.cell? ⟨V.heap.size,1,none⟩=some (.int .i64 p)/\F.cell? ⟨V.heap.size,2,none⟩=some (.int .i64 r)) (go_keep) (first|(go_at_call 192;refine yi (D.out (some ⟨w2.heap.size,0,none⟩) 1 J.drew a6.out.drew (H4.out.below (yr _ _).drew)) ?_;rintro e w3 ⟨a', c', rfl,a7,a8⟩;have B3:Hid (Below J.heap.size J w3):=(yr _ _).drew.trans a7;have N3:Hid (St (fun b=>b<J.heap.size) (fun V=>zai V a' (rS E T)) w3):=a8;have b1:=zab l0 B3.out;have b2:=zab l1 B3.out;have d5:=zab u0 B3.out;have d6:=zab u1 B3.out;have d7:=zab v0 B3.out;have d8:=zab v1 B3.out;have d9:=zab y1 B3.out;have e6:=zab y2 B3.out;clear a7 a8)|(go_at_call 192;refine yi (D.out (some ⟨w2.heap.size,0,none⟩) 1 (J.alloc (.cells #[.slice none 0 0] 43)).drew (a6.out.trans ((zaa J _).mono a6.out.size)).drew (H4.out.below (zaa J _).drew)) ?_;rintro e w3 ⟨a', c', rfl,a7,a8⟩;have B3:Hid (Below J.heap.size J w3):=(zaa J _).drew.trans (a7.mono (by simp));have N3:Hid (St (fun b=>b<J.heap.size+1) (fun V=>zai V a' (rS E T)) w3):=(by have h:=a8;simp only[ys,World.size_drew] at h;exact h);have b1:=zab l0 B3.out;have b2:=zab l1 B3.out;have d5:=zab u0 B3.out;have d6:=zab u1 B3.out;have d7:=zab v0 B3.out;have d8:=zab v1 B3.out;have d9:=zab y1 B3.out;have e6:=zab y2 B3.out;have X3:Hid (w3.heap[J.heap.size]?=some (.cells #[.slice none 0 0] 43 (0,0))):=zat (W:=(J.alloc (.cells #[.slice none 0 0] 43)).drew) (yL J _) a7;have x3:=zaJ X3.out;have xf:=zaW (o:=0) X3.out;have xl:J.heap.size<w3.heap.size:=zay X3.out;clear a7 a8))
  ·go_wp2_with fail
   go_meet
   case rel=>exact⟨_,_,_,rfl,rfl,zBs _ _ (yr J.heap.size J) B3.out N3.out⟩
  ·go_wp2_with fail
   go_meet
   case rel=>exact⟨_,_,_,rfl,rfl,zBt _ (yr J.heap.size J) B3.out N3.out X3.out⟩
 case rest =>
  obtain⟨b,a', c', rfl,rfl,HB,HN,b3,g8⟩:=hcut;have I2:Hid _:=II.out.below (a6.out.trans (HB.out.mono a6.out.size));have HS:Hid _:=I2.out.store c' HN.out (by have h1:=II.out.base;have h2:=a6.out.size;omega);obtain⟨m0,m1,m2,m3,mf,ml⟩:=zaj I2.out.box;have bl:b<wc.heap.size:=ye _ _ b3;have h9:¬ b=d:=by omega
  clear II D u0 u1 v0 v1 l0 l1 y1 y2
  go_wp2
  refine yw (v:=.tuple #[.int .i64 0,.int .i64 E]) (by simp[results,Tryz.results177,go_sem]) rfl ⟨0,rfl,HS.out.1,fun hE=>?_⟩;rw[zls hE];have h2:=HS.out.2;rw[hE,zic] at h2;rw[hE,zic];exact⟨rfl,_,h2⟩
end Go.Proofs.YtcbcpomacdngmaaGreat
