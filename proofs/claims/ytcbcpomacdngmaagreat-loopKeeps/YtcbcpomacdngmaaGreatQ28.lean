/-
  x
-/
import Derived.Test.YtcbcpomacdngmaaGreatQ27
namespace Go.Proofs.YtcbcpomacdngmaaGreat
set_option maxRecDepth 100000
set_option maxHeartbeats 4000000
set_option linter.unusedVariables false
open Go.RowKit Go.ChangeShapes Go.WideShapes
theorem zcx{k:Nat}{Es:List Int}{W V:Wl}{o:Int}(E:zaq Es=0->(rlm V k).t=(rlm W k).t):(rlm (zff Es W V o).w k).t=(rlm W k).t:=by
 rcases zqy (Es:=Es) (W:=W) (V:=V) (o:=o) with h |⟨h,D⟩
 ·rw[h]
 ·rw[D];exact E h
theorem zyL{W:Wl}{k:Nat}{n a:Int}(h:zdI W.fs k n 5=0)(R:Rl):(W.rs.set n.toNat R).getD k zbN=rlm W k:=by
 obtain⟨_,_,D,h5⟩:=zcg h;obtain⟨q,rfl,E,_⟩:=zdA D;rw[yj];unfold zso at h5;rw[ya (by decide),ya (by decide),ya (by decide)] at h5;simp only[Bool.and_eq_true,Bool.not_eq_true', decide_eq_false_iff_not] at h5;exact zhf _ _ _ _ _ (fun e=>h5.1 (by rw[e]))
theorem zlr{W:Wl}(H:zan W){k:Nat}(E:k<W.fs.length)(x:Ac):(rlm (zdv W k x).w k).t=(rlm W k).t:=by
 have D:k<W.rs.length:=by rw[H.lr];exact E
 unfold zdv
 repeat' split
 ·exact zcx (fun _=>rfl)
 ·exact zcx (fun _=>rfl)
 ·exact zcx (fun _=>rfl)
 ·exact zcx (fun _=>rfl)
 ·exact zcx (fun h=>by
   show ((W.rs.set _ _).getD k zbN).t=_;rw[zyL (a:=x.a) (zaw h).1])
 ·exact zcx (fun _=>rfl)
 ·exact zcx (fun _=>rfl)
 ·exact zcx (fun _=>rfl)
 ·exact zcx (fun _=>by
   show (rlm (setR W k _) k).t=_;rw[zcQ D,yd rfl])
 ·exact zcx (fun _=>rfl)
 ·exact zcx (fun h=>by
   rw[zcQ D,yd rfl];exact(zom (zaw h).1).2.1.tld)
theorem zjV{W:Wl}{k:Nat}(D:k<W.rs.length)(o:Int):rlm (zml W k o) k={ rlm W k with t:=(rlm W k).t++[o] }:=by
 unfold zml;rw[zcQ D,yd rfl]
theorem zjU{W:Wl}(H:zan W){k:Nat}(D:k<W.fs.length)(o:Int)(E:(rlm W k).t.length+1<=4800):zan (zml W k o):=by
 obtain⟨r1,r2,r3,F⟩:=zav (H.rs k D);exact H.setR (zeu r1 r2 r3 (by show ((rlm W k).t++[o]).length<=4800;rw[List.length_append];simpa using E)) D
theorem zzR{W:Wl}(H:zan W){k:Nat}(D:k<W.fs.length)(x:Ac)(M:(rlm W k).t.length+1<=4800) :
  zan (doW k W x)/\Aft k W (doW k W x)/\(rlm (doW k W x) k).t=(rlm W k).t++[toldOf (zdv W k x)]:=by
 have H1:=zmy H D x;have J:=zsE H D x;have E:k<(zdv W k x).w.fs.length:=by rw[zsF];exact D
 have I:=zlr H D x;have F:k<(zdv W k x).w.rs.length:=by rw[H1.lr];exact E
 refine⟨zjU H1 E _ (by rw[I];exact M),Aft.trans H J (Aft.setR F) D,?_⟩;show (rlm (zml _ _ _) k).t=_;rw[zjV F];dsimp only;rw[I]
theorem zlK{k:Nat}:∀ (D:List Ac) {W:Wl},zan W->k<W.fs.length->(rlm W k).t.length+D.length<=4800 ->
  zan (D.foldl (doW k) W)/\Aft k W (D.foldl (doW k) W)/\(rlm (D.foldl (doW k) W) k).t.length=(rlm W k).t.length+D.length
 | [],W,H,E,_=>⟨H,Aft.refl k W,rfl⟩
 | x :: D,W,H,E,J=>by
  have I:(rlm W k).t.length+1<=4800:=by simp at J;omega
  obtain⟨a,b,c⟩:=zzR H E x I;have F:k<(doW k W x).fs.length:=by rw[b.len];exact E
  have hl:(rlm (doW k W x) k).t.length=(rlm W k).t.length+1:=by rw[c,List.length_append];rfl
  obtain⟨a2,M,c2⟩:=zlK D a F (by rw[hl];simp at J;omega);refine⟨a2,Aft.trans H b M E,?_⟩;rw[List.foldl_cons,c2,hl,List.length_cons];omega
theorem zdZ(W:Wl)(k:Nat)(s:Bool):(zbc W k s).fs=W.fs:=by unfold zbc;split <;> rfl
theorem zgQ(W:Wl)(k:Nat)(s:Bool):(zbc W k s).ps=W.ps:=by unfold zbc;split <;> rfl
theorem zeE{W:Wl}{k:Nat}(E:k<W.rs.length)(s:Bool){j:Nat}(D:j≠k):rlm (zbc W k s) j=rlm W j:=by
 unfold zbc;split
 ·rw[zcQ E,ya D]
 ·show rlm (setR W k _) j=_;rw[zcQ E,ya D]
theorem zea{W:Wl}{k:Nat}(D:k<W.rs.length)(s:Bool):rlm (zbc W k s) k={ rlm W k with i:=if s then [] else ((que W k).getD 0 ⟨0,[]⟩).g }:=by
 unfold zbc;split
 ·rw[zcQ D,yd rfl]
 ·show rlm (setR W k _) k=_;rw[zcQ D,yd rfl]
theorem zsL{W:Wl}{k:Nat}(D:k<W.qs.length)(s:Bool)(j:Nat):que (zbc W k s) j=if j=k/\s=false then (que W k).drop 1 else que W j:=by
 unfold zbc
 cases s with
 | true=>simp;rfl
 | false =>
  simp only[Bool.false_eq_true,if_false,and_true];show (W.qs.set k _).getD j []=_;rw[zba _ _ _ _ _ D];rfl
theorem zeF{W:Wl}(H:zan W){k:Nat}(D:k<W.fs.length)(s:Bool)(J:s=false->(que W k).length≠0):zan (zbc W k s):=by
 obtain⟨r1,r2,r3,I⟩:=zav (H.rs k D);obtain⟨M,F⟩:=zbr.1 (H.qs k D);unfold zbc;split
 ·exact H.setR (zeu r1 r2 rfl I) D
 ·rename_i h
  have h0:0<(que W k).length:=by
   have:=J (by simpa using h);omega
  have E:=F ((que W k).getD 0 ⟨0,[]⟩) (by rw[zae _ _ h0];exact List.getElem_mem h0);have H1:=H.setR (R:={ rlm W k with i:=((que W k).getD 0 ⟨0,[]⟩).g }) (zeu r1 r2 E.2 I) D;exact zan.queue (q:=(que W k).drop 1) H1 D (zbr.2 ⟨by rw[List.length_drop];omega,fun m E=>F m (List.mem_of_mem_drop E)⟩)
theorem zbW{W:Wl}{k:Int}{s:Bool}(h:zcp W k s=0):zan W/\∃ q:Nat,k=q/\q<W.fs.length/\(fr W.fs q).g=false/\bits .and .i64 (fr W.fs q).m 1≠0/\(rlm W q).t.length<=4760/\(s=false->(que W q).length≠0):=by
 unfold zcp at h;obtain⟨h1,h⟩:=zaw h;obtain⟨I,h⟩:=zaw h;obtain⟨D,h⟩:=zaw h;obtain⟨E,h⟩:=zaw h;obtain⟨h5,_⟩:=zaw h;obtain⟨q,rfl,J,hg⟩:=zdA I;rw[yj] at D E h5;refine⟨zbU.1 h1,q,rfl,J,hg,fun e=>?_,?_,fun e F=>?_⟩
 ·unfold zjr at D;rw[yd e] at D;omega
 ·by_cases e:4760<(rlm W q).t.length
  ·rw[yd e] at E;omega
  ·omega
 ·rw[yd ⟨e,F⟩] at h5;omega
theorem zho{W:Wl}{q:Nat}{s:Bool}(h:zcp W q s=0) :
  zan (zbz W q s)/\Aft q (zbc W q s) (zbz W q s)/\(rlm (zbz W q s) q).t.length=(rlm W q).t.length+(prg W q).length/\(zbz W q s).fs.length=W.fs.length:=by
 obtain⟨H,D,e,E,hg,U,ht,F⟩:=zbW h;have:D=q:=by omega
 subst this;have T:D<W.rs.length:=by rw[H.lr];exact E
 have J:=zeF H E s F;have O:D<(zbc W D s).fs.length:=by rw[zdZ];exact E
 have I:(rlm (zbc W D s) D).t.length=(rlm W D).t.length:=by rw[zea T]
 have Z:=H.ps D E
 have M:zbz W D s=(prg W D).foldl (doW D) (zbc W D s):=by
  unfold zbz;rw[yd h,yj]
 obtain⟨a,b,c⟩:=zlK (prg W D) J O (by rw[I];omega);rw[M];exact⟨a,b,by rw[c,I],by rw[b.len,zdZ]⟩
theorem zhr{W:Wl}(H:zan W)(p:Int × Bool):zan (zdG W p)/\(zdG W p).fs.length=W.fs.length:=by
 unfold zdG;by_cases h:zcp W p.1 p.2=0
 ·rw[yd h];obtain⟨_,q,e,_⟩:=zbW h;rw[e] at h |-;exact⟨(zho h).1,(zho h).2.2.2⟩
 ·rw[ya h];exact⟨H,rfl⟩
theorem zgc:∀ (l:List (Int × Bool)) {W:Wl},zan W->zan (l.foldl zdG W)/\(l.foldl zdG W).fs.length=W.fs.length
 | [],W,H=>⟨H,rfl⟩
 | p :: l,W,H=>by
  obtain⟨a,b⟩:=zhr H p;obtain⟨c,d⟩:=zgc l a;exact⟨c,d.trans b⟩
theorem ziU:∀ (l:List (Int × Bool)) (W:Wl),(zny W l).length=l.length
 | [],_=>rfl
 | p :: l,W=>by rw[zny,List.length_cons,List.length_cons,ziU l]
theorem St.new{X:Nat->Prop}{P:World->Prop}{w:World}(h:St (fun _=>False) P w)(E:∀ b,X b->w.heap.size<=b):St X P w:=fun w' D=>h w' ⟨D.size,fun b F _=>D.block b F (fun I=>by have:=E b I;omega)⟩
theorem zdq{W:Wl}(H:zan W):znQ W:=by
 have h1:=H.fs.few;refine⟨by omega,⟨by rw[H.lr];omega,fun i hi=>zcU (H.rs i (by rw[<- H.lr];exact hi))⟩,⟨by rw[H.lp];omega,fun i hi=>?_⟩,⟨by rw[H.lq];omega,fun i hi=>?_⟩,?_⟩
 ·have:=H.ps i (by rw[<- H.lp];exact hi);exact yH this (by decide)
 ·obtain⟨E,F⟩:=zbr.1 (H.qs i (by rw[<- H.lq];exact hi));refine⟨yH E (by decide),fun j D=>?_⟩;have:=(F _ (List.getElem_mem D)).2;have I:=zcG this;rw[zhR D];exact⟨by omega,I.2⟩
 ·exact⟨by have:=H.pt.few;omega,(zqX H.pt).big⟩
theorem zAG(hR:zfn)(X:Nat->Prop){W Z:Wl}{L:List (Int × Bool)}{S:List Int}{E:Int}(hB:znQ W)(hL:L.length<=9223372036854775807)(h1:zeS W L=E)(U:zfl W L=Z)(h3:zjK W L=S){n m:Nat}(hn:L.length=n)(hm:S.length=m){a0 a1 a2 a3 a4:Option Addr}{c0 c1 c2 c3 c4:Nat}{T:Option Addr}{lc:Nat}{V:World}(hX:∀ b,X b->b<V.heap.size)(hC:WlC ⟨a0,a1,a2,a3,a4,c0,c1,c2,c3,c4⟩ W)(hW:zgr X V ⟨a0,a1,a2,a3,a4,c0,c1,c2,c3,c4⟩ W)(hs:SlA T n lc)(hP:zfh V T L) :
  Calls Tryz.prog 20 #[.agg #[.slice a0 W.fs.length c0,.slice a1 W.rs.length c1,.slice a2 W.ps.length c2,.slice a3 W.qs.length c3,.slice a4 W.pt.length c4],.slice T n lc] V fun e w' => ∃ (D F I J M sa:Option Addr) (d0 d1 d2 d3 O sc:Nat),e=.returned (.tuple #[.agg #[.slice D Z.fs.length d0,.slice F Z.rs.length d1,.slice I Z.ps.length d2,.slice J Z.qs.length d3,.slice M Z.pt.length O],.slice sa m sc,.int .i64 E])/\Below V.heap.size V w' /\ WlC ⟨D,F,I,J,M,d0,d1,d2,d3,O⟩ Z/\zgr X w' ⟨D,F,I,J,M,d0,d1,d2,d3,O⟩ Z/\St X (fun w=>zak w sa S) w' := by
 subst h1 U h3 hn hm;refine(hR X ⟨a0,a1,a2,a3,a4,c0,c1,c2,c3,c4⟩ W T lc L V hX hB hC hW hL hs hP).mono ?_;rintro e w' ⟨⟨D,F,I,J,M,d0,d1,d2,d3,O⟩,sa,sc,h1,U,h3,h4,h5⟩;exact⟨D,F,I,J,M,sa,d0,d1,d2,d3,O,sc,h1,U,h3,h4,h5⟩
theorem zpr(hT:zfN)(X:Nat->Prop){W Z:Wl}{k:Int}{s:Bool}{E:Int}(hB:znQ W)(h1:zcp W k s=E)(T:zbz W k s=Z){a0 a1 a2 a3 a4:Option Addr}{c0 c1 c2 c3 c4:Nat}{V:World}(hX:∀ b,X b->b<V.heap.size)(hC:WlC ⟨a0,a1,a2,a3,a4,c0,c1,c2,c3,c4⟩ W)(hW:zgr X V ⟨a0,a1,a2,a3,a4,c0,c1,c2,c3,c4⟩ W) :
  Calls Tryz.prog 13 #[.agg #[.slice a0 W.fs.length c0,.slice a1 W.rs.length c1,.slice a2 W.ps.length c2,.slice a3 W.qs.length c3,.slice a4 W.pt.length c4],.agg #[.int .i64 k,.bool s]] V fun e w' => ∃ (D F I J M:Option Addr) (d0 d1 d2 d3 O:Nat),e=.returned (.tuple #[.agg #[.slice D Z.fs.length d0,.slice F Z.rs.length d1,.slice I Z.ps.length d2,.slice J Z.qs.length d3,.slice M Z.pt.length O],.int .i64 E])/\Below V.heap.size V w' /\ WlC ⟨D,F,I,J,M,d0,d1,d2,d3,O⟩ Z/\zgr X w' ⟨D,F,I,J,M,d0,d1,d2,d3,O⟩ Z:=by
 subst h1 T;refine(hT X ⟨a0,a1,a2,a3,a4,c0,c1,c2,c3,c4⟩ W k s V hX hB hC hW).mono ?_;rintro e w' ⟨⟨D,F,I,J,M,d0,d1,d2,d3,O⟩,h1,T,U,h4⟩;exact⟨D,F,I,J,M,d0,d1,d2,d3,O,h1,T,U,h4⟩
theorem zgU(hK:zdY){W:Wl}{E:Int}(D:znQ W)(h1:zbg W=E){a0 a1 a2 a3 a4:Option Addr}{c0 c1 c2 c3 c4:Nat}{V:World}(F:WlC ⟨a0,a1,a2,a3,a4,c0,c1,c2,c3,c4⟩ W)(I:zdF V ⟨a0,a1,a2,a3,a4,c0,c1,c2,c3,c4⟩ W) :
  Calls Tryz.prog 10 #[.agg #[.slice a0 W.fs.length c0,.slice a1 W.rs.length c1,.slice a2 W.ps.length c2,.slice a3 W.qs.length c3,.slice a4 W.pt.length c4]] V fun e w' => e=.returned (.int .i64 E)/\Below V.heap.size V w' := by
 subst h1;exact hK ⟨a0,a1,a2,a3,a4,c0,c1,c2,c3,c4⟩ W V D F I
theorem zfh.take{w:World}{a:Option Addr}{L:List (Int × Bool)}(h:zfh w a L)(k:Nat):zfh w a (L.take k):=fun i hi=>by
 have D:i<k/\i<L.length:=by rw[List.length_take] at hi;omega
 have e:pk (L.take k) i=pk L i:=by
  unfold pk;rw[zae _ _ hi,zae _ _ D.2,List.getElem_take]
 rw[e];exact h i D.2
theorem zBl(E:Option Addr)(n D cap:Nat)(h1:D<=n)(h:SlA E n cap):∃ F,(∀ W,(Instr.slice 71 (.slice E n cap) none (some (.int .i64 (D:Int))) none).run Tryz.prog W=.ok (.slice E D F) W)/\SlA E D F:=by
 obtain⟨T,U,O⟩:=h
 cases E with
 | none =>
  have e:=T rfl;subst e;have J:n=0:=by omega
  have M:D=0:=by omega
  subst J;subst M;exact⟨0,fun W=>by go_simp,zcd⟩
 | some I =>
  obtain⟨b,o,s⟩:=I;have g1:(D:Int)<=(cap:Int):=by omega
  have g2:(0:Int)<=(D:Int):=by omega
  exact⟨cap,fun W=>by go_simp,(fun e=>by cases e),by omega,O⟩
theorem zlB(a:Option Addr)(c:Nat)(L:List Pt)(i:Nat)(Fr:Int)(w:World)(hN:L.length<=12)(hi:i<L.length)(hB:zsm L)(hL:zdH w a L) :
  Calls Tryz.prog 69 #[.slice a L.length c,.int .i64 (i:Int),.int .i64 Fr] w fun e w' => e=.returned (.int .i64 (zdC L Fr i))/\Below w.heap.size w w' := by
 have HL:Hid (zdH w a L):=hL;obtain⟨b,o,ea,c0,c1,c2,ca,cc,c3,⟨_,hk⟩,c4⟩:=hL i hi;subst ea;obtain⟨a8,a5⟩:=hB i hi;have b4:b<w.heap.size:=ye _ _ c0;have b2:(i:Int)<(L.length:Int):=by omega
 have T:Hid (∀ W,_):=fun W=>zgl (pt L i).o Fr W;have O:Hid (∀ W,_):=fun W=>zkW (some ⟨b,o,none⟩) L.length c (pt L i).m W (by omega);have U:Hid (∀ W,_):=fun W=>ziC (pt L i).t W;have DC:Hid (∀ W,Below w.heap.size w W->_):=fun W hW=>zlx (pt L i) ca cc W a8 a5 (hk.below hW);clear hL hB hk a5;by_cases I:0<=(pt L i).o/\(pt L i).o<Fr
 ·rw[yG I] at T;by_cases J:0<=(pt L i).m/\(pt L i).m<=(L.length:Int)-1
  ·rw[yG J] at O;obtain⟨q,hq⟩:=Int.eq_ofNat_of_zero_le J.1;have b1:q<L.length:=by omega
   have b3:(q:Int)<(L.length:Int):=by omega
   obtain⟨b', o', b0,_,_,d2,_⟩:=HL.out q b1;cases b0
   have Z:Hid (zdC L Fr i=if (q:Int)=i\/(pt L q).m≠i then 3 else if ¬ (0<=(pt L i).t/\(pt L i).t<=1000) then 2 else zsQ (pt L i).cm.length (pt L i).s (zbq (pt L i).cm)):=by
    show zdC L Fr i=_;unfold zdC zsQ;rw[ya (fun h=>by rcases h with h|h;exact absurd I h;exact absurd J h),hq,yj]
   rw[hq] at c2 O DC;clear J I hq HL;rw[Z.out];clear Z;generalize (pt L q).m=ym at *;by_cases e1:q=i
   ·rw[yd (Or.inl (by omega))];have a9:i=q:=e1.symm;clear e1;subst a9;clear DC U;generalize (pt L i).o=xo at *;generalize (pt L i).t=xt at *;generalize (pt L i).cm.length=cl at *;generalize (pt L i).s=xs at *;generalize L.length=n at *;have y1:((i:Int) ==(i:Int))=true:=by simp
    go_enter Tryz.func69,Tryz.ntmps69
    go_wp2_with fail
    refine yi (T.out _) ?_;rintro e M ⟨rfl,D⟩;have F:=D.symm;clear D;subst F
    go_wp2_with fail
    refine yi (O.out _) ?_;rintro e M ⟨rfl,D⟩;have F:=D.symm;clear D;subst F
    go_wp2_with fail
    go_ret;exact⟨rfl,zaa _ _⟩
   ·have y1:((q:Int) ==(i:Int))=false:=by simp;omega
    have y2:decide ((q:Int)=(i:Int))=false:=yF (by omega);have y3:decide (q=i)=false:=yF e1;by_cases e2:ym=(i:Int)
    ·rw[ya (fun h=>by rcases h with h|h;omega;exact absurd e2 h)];subst e2;by_cases hT:0<=(pt L i).t/\(pt L i).t<=1000
     ·rw[yG hT] at U;rw[ya (yJ hT)];clear hT;generalize zsQ (pt L i).cm.length (pt L i).s (zbq (pt L i).cm)=E at *;generalize (pt L i).o=xo at *;generalize (pt L i).t=xt at *;generalize (pt L i).cm.length=cl at *;generalize (pt L i).s=xs at *;generalize L.length=n at *
      go_enter Tryz.func69,Tryz.ntmps69
      go_wp2_with fail
      refine yi (T.out _) ?_;rintro e M ⟨rfl,D⟩;have F:=D.symm;clear D;subst F
      go_wp2_with fail
      refine yi (O.out _) ?_;rintro e M ⟨rfl,D⟩;have F:=D.symm;clear D;subst F
      go_wp2_with fail
      refine yi (U.out _) ?_;rintro e M ⟨rfl,D⟩;have F:=D.symm;clear D;subst F
      go_wp2_with fail
      refine yi (DC.out _ (zaa _ _)) ?_;rintro e M ⟨rfl,a6⟩;have a7:Hid (Below w.heap.size w M):=(zaa _ _).trans (a6.mono (by simp));clear a6
      go_wp2_with fail
      go_ret;exact⟨rfl,a7.out⟩
     ·rw[yF hT] at U;rw[yd hT];clear hT DC;generalize (pt L i).o=xo at *;generalize (pt L i).t=xt at *;generalize (pt L i).cm.length=cl at *;generalize (pt L i).s=xs at *;generalize L.length=n at *
      go_enter Tryz.func69,Tryz.ntmps69
      go_wp2_with fail
      refine yi (T.out _) ?_;rintro e M ⟨rfl,D⟩;have F:=D.symm;clear D;subst F
      go_wp2_with fail
      refine yi (O.out _) ?_;rintro e M ⟨rfl,D⟩;have F:=D.symm;clear D;subst F
      go_wp2_with fail
      refine yi (U.out _) ?_;rintro e M ⟨rfl,D⟩;have F:=D.symm;clear D;subst F
      go_wp2_with fail
      go_ret;exact⟨rfl,zaa _ _⟩
    ·rw[yd (Or.inr e2)];have y4:(ym ==(i:Int))=false:=by simp[e2]
     have y5:decide (ym=(i:Int))=false:=yF e2;have y6:(ym !=(i:Int))=true:=by simp[e2]
     clear DC U;generalize (pt L i).o=xo at *;generalize (pt L i).t=xt at *;generalize (pt L i).cm.length=cl at *;generalize (pt L i).s=xs at *;generalize L.length=n at *
     go_enter Tryz.func69,Tryz.ntmps69
     go_wp2_with fail
     refine yi (T.out _) ?_;rintro e M ⟨rfl,D⟩;have F:=D.symm;clear D;subst F
     go_wp2_with fail
     refine yi (O.out _) ?_;rintro e M ⟨rfl,D⟩;have F:=D.symm;clear D;subst F
     go_wp2_with fail
     go_ret;exact⟨rfl,zaa _ _⟩
  ·rw[yF J] at O
   have Z:Hid (zdC L Fr i=4):=by
    show zdC L Fr i=_;unfold zdC;rw[yd (Or.inr J)]
   rw[Z.out];clear Z J I DC U HL;generalize (pt L i).o=xo at *;generalize (pt L i).t=xt at *;generalize (pt L i).m=xm at *;generalize (pt L i).cm.length=cl at *;generalize (pt L i).s=xs at *;generalize L.length=n at *
   go_enter Tryz.func69,Tryz.ntmps69
   go_wp2_with fail
   refine yi (T.out _) ?_;rintro e M ⟨rfl,D⟩;have F:=D.symm;clear D;subst F
   go_wp2_with fail
   refine yi (O.out _) ?_;rintro e M ⟨rfl,D⟩;have F:=D.symm;clear D;subst F
   go_wp2_with fail
   go_ret;exact⟨rfl,zaa _ _⟩
 ·rw[yF I] at T
  have Z:Hid (zdC L Fr i=4):=by
   show zdC L Fr i=_;unfold zdC;rw[yd (Or.inl I)]
  rw[Z.out];clear Z I DC U O HL;generalize (pt L i).o=xo at *;generalize (pt L i).t=xt at *;generalize (pt L i).m=xm at *;generalize (pt L i).cm.length=cl at *;generalize (pt L i).s=xs at *;generalize L.length=n at *
  go_enter Tryz.func69,Tryz.ntmps69
  go_wp2_with fail
  refine yi (T.out _) ?_;rintro e M ⟨rfl,D⟩;have F:=D.symm;clear D;subst F
  go_wp2_with fail
  go_ret;exact⟨rfl,zaa _ _⟩
theorem zhY:zst:=fun a c L Fr w hN hB a6 hL=>by
 by_cases hm:12<L.length
 ·have e:zbd L Fr=1:=by unfold zbd;rw[yd hm]
  rw[e];have a5:decide ((12:Int)<(L.length:Int))=true:=yG (by omega);clear hL e hB a6;generalize L.length=n at *
  go_enter Tryz.func37,Tryz.ntmps37
  go_wp2_with fail
  go_ret;exact⟨rfl,yr _ _⟩
 ·have e:zbd L Fr=zpa L Fr 0:=by unfold zbd;rw[ya hm]
  rw[e];have a5:decide ((12:Int)<(L.length:Int))=false:=yF (by omega);have D:Hid (∀ i,i<L.length->∀ W,Below w.heap.size w W->_):=fun i hi W hW=>zlB a c L i Fr W (by omega) hi hB (hL.below hW);have ST:Hid (∀ i,i<L.length->zpa L Fr i=if zdC L Fr i=0 then zpa L Fr (i+1) else zdC L Fr i):=fun i hi=>zuB hi;have EN:Hid (zpa L Fr L.length=0):=zxb (yk _);clear hL e hB a6;obtain⟨E,hE⟩:∃ E,zpa L Fr 0=E:=⟨_,rfl⟩;have HE:Hid (zpa L Fr 0=E):=hE;rw[hE];clear hE;obtain⟨n,hn⟩:∃ n,L.length=n:=⟨_,rfl⟩;rw[hn] at hN hm a5 ST EN D |-;clear hn
  go_enter Tryz.func37,Tryz.ntmps37
  go_wp2_with fail
  go_loopg [12] n (fun g s12 wr=>∃ i:Nat,i<=n/\n-i<=g/\s12=.int .i64 i/\Hid (Below w.heap.size w wr)/\Hid (zpa L Fr i=E))
  case atStart=>exact⟨0,by omega,by omega,rfl,yr _ _,HE⟩
  case round =>
   obtain⟨i,hi,hg,rfl,F,I⟩:=hrel;clear HE;by_cases Z:i<n
   ·have a9:(i:Int)<(n:Int):=by omega
    have Di:Hid _:=D.out i Z wr F.out;have a7:=(ST.out i Z).symm.trans I.out;have J:Hid _:=a7;clear a7 I;generalize zdC L Fr i=P at *
    go_wp2_with fail
    refine yi Di.out ?_;rintro e w1 ⟨rfl,U⟩;have O:Hid (Below w.heap.size w w1):=F.out.trans (U.mono F.out.size);clear U Di;by_cases T:P=0
    ·have M:Hid (zpa L Fr (i+1)=E):=by have:=J.out;rw[yd T] at this;exact this
     subst T;clear J
     go_wp2_with fail
     go_roundg (n-(i+1))
     case measure=>omega
     case rel=>exact⟨i+1,by omega,by omega,by go_num,O,M⟩
    ·have M:Hid (P=E):=by have:=J.out;rw[ya T] at this;exact this
     have y1:decide (P=0)=false:=yF T;have y2:(P == 0)=false:=by simp[T]
     clear J
     go_wp2_with fail
     go_ret;exact⟨by rw[M.out];rfl,O.out⟩
   ·have e:i=n:=by omega
    have a8:Hid (0=E):=by have:=I.out;rw[e,EN.out] at this;exact this
    have b0:decide ((i:Int)<(n:Int))=false:=yF (by omega);clear I e
    go_wp2_with fail
    go_ret;exact⟨by rw[a8.out];rfl,F.out⟩
theorem zck(a:Option Addr)(c:Nat)(L:List Pt)(Fr k o t:Int)(w:World)(hN:L.length<=9223372036854775807)(hB:zsm L)(a5:SlA a L.length c)(hL:zdH w a L) :
  Calls Tryz.prog 159 #[.slice a L.length c,.int .i64 Fr,.int .i64 k,.int .i64 o,.int .i64 t] w fun e w' => e=.returned (.int .i64 (zaU L Fr k o t))/\Below w.heap.size w w' := by
 have M:Hid _:=zhY a c L Fr w hN hB a5 hL;have HL:Hid (zdH w a L):=hL;clear hL hB a5;unfold zaU;by_cases h1:zbd L Fr=0
 ·rw[ya (yJ h1)];rw[h1] at M;have a7:L.length<=12:=(zcN.1 h1).few;have O:Hid (∀ W,_):=fun W=>zkW a L.length c k W (by omega);by_cases Z:0<=k/\k<(L.length:Int)
  ·rw[ya (yJ Z)];rw[yG (show 0<=k/\k<=(L.length:Int)-1 by omega)] at O;obtain⟨q,rfl⟩:=Int.eq_ofNat_of_zero_le Z.1;have hq:q<L.length:=by omega
   have a8:(q:Int)<(L.length:Int):=by omega
   rw[yj];obtain⟨b,oo,ea,c0,c1,c2,ca,cc,c3,a6,c4⟩:=HL.out q hq;subst ea;clear h1 Z a6 c2 c3 HL;generalize pt L q=x at *;obtain⟨xo,xt,xm,xc,xs⟩:=x;dsimp only at c0 c1 c4 |-;by_cases T:xo=o
   ·subst T;by_cases U:xt=t
    ·subst U;rw[ya (by simp)];cases xs
     ·rw[ya (by decide)];generalize L.length=n at *
      go_enter Tryz.func159,Tryz.ntmps159
      go_wp2_with fail
      refine yi M.out ?_;rintro e w1 ⟨rfl,D⟩;have I:Hid (Below w.heap.size w w1):=D;replace c0:=zab c0 D;replace c1:=zab c1 D;replace c4:=zab c4 D;clear D M
      go_wp2_with fail
      refine yi (O.out _) ?_;rintro e w2 ⟨rfl,F⟩;have J:=F.symm;clear F;subst J
      go_wp2_with fail
      go_ret;exact⟨rfl,I.out⟩
     ·rw[yd rfl];generalize L.length=n at *
      go_enter Tryz.func159,Tryz.ntmps159
      go_wp2_with fail
      refine yi M.out ?_;rintro e w1 ⟨rfl,D⟩;have I:Hid (Below w.heap.size w w1):=D;replace c0:=zab c0 D;replace c1:=zab c1 D;replace c4:=zab c4 D;clear D M
      go_wp2_with fail
      refine yi (O.out _) ?_;rintro e w2 ⟨rfl,F⟩;have J:=F.symm;clear F;subst J
      go_wp2_with fail
      go_ret;exact⟨rfl,I.out⟩
    ·rw[yd (Or.inr U)];have y1:decide (xt=t)=false:=yF U;have y2:(xt == t)=false:=by simp[U]
     have y3:(xt != t)=true:=by simp[U]
     generalize L.length=n at *
     go_enter Tryz.func159,Tryz.ntmps159
     go_wp2_with fail
     refine yi M.out ?_;rintro e w1 ⟨rfl,D⟩;have I:Hid (Below w.heap.size w w1):=D;replace c0:=zab c0 D;replace c1:=zab c1 D;replace c4:=zab c4 D;clear D M
     go_wp2_with fail
     refine yi (O.out _) ?_;rintro e w2 ⟨rfl,F⟩;have J:=F.symm;clear F;subst J
     go_wp2_with fail
     go_ret;exact⟨rfl,I.out⟩
   ·rw[yd (Or.inl T)];have y1:decide (xo=o)=false:=yF T;have y2:(xo == o)=false:=by simp[T]
    have y3:(xo != o)=true:=by simp[T]
    generalize L.length=n at *
    go_enter Tryz.func159,Tryz.ntmps159
    go_wp2_with fail
    refine yi M.out ?_;rintro e w1 ⟨rfl,D⟩;have I:Hid (Below w.heap.size w w1):=D;replace c0:=zab c0 D;replace c1:=zab c1 D;replace c4:=zab c4 D;clear D M
    go_wp2_with fail
    refine yi (O.out _) ?_;rintro e w2 ⟨rfl,F⟩;have J:=F.symm;clear F;subst J
    go_wp2_with fail
    go_ret;exact⟨rfl,I.out⟩
  ·rw[yd Z];rw[yF (show ¬ (0<=k/\k<=(L.length:Int)-1) by omega)] at O;clear h1 Z HL;generalize L.length=n at *
   go_enter Tryz.func159,Tryz.ntmps159
   go_wp2_with fail
   refine yi M.out ?_;rintro e w1 ⟨rfl,D⟩;have I:Hid (Below w.heap.size w w1):=D;clear D M
   go_wp2_with fail
   refine yi (O.out _) ?_;rintro e w2 ⟨rfl,F⟩;have J:=F.symm;clear F;subst J
   go_wp2_with fail
   go_ret;exact⟨rfl,I.out⟩
 ·rw[yd h1];have y1:decide (zbd L Fr=0)=false:=yF h1;have y2:(zbd L Fr == 0)=false:=by simp[h1]
  clear HL;generalize zbd L Fr=E at *;generalize L.length=n at *
  go_enter Tryz.func159,Tryz.ntmps159
  go_wp2_with fail
  refine yi M.out ?_;rintro e w1 ⟨rfl,D⟩;have I:Hid (Below w.heap.size w w1):=D;clear D M
  go_wp2_with fail
  go_ret;exact⟨rfl,I.out⟩
end Go.Proofs.YtcbcpomacdngmaaGreat
