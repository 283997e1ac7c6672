/-
  x
-/
import Derived.Test.YtcbcpomacdngmaaGreatQ27
namespace Go.Proofs.YtcbcpomacdngmaaGreat
set_option maxRecDepth 100000
set_option maxHeartbeats 4000000
set_option linter.unusedVariables false
open Go.RowKit Go Go.ChangeShapes Go.WideShapes
theorem St.new{X:Nat->Prop}{P:World->Prop}{w:World}(h:St (fun _=>False) P w)(E:∀ b,X b->w.heap.size<=b):St X P w:=fun w' D=>h w' ⟨D.size,fun b F _=>D.block b F (fun I=>by have:=E b I;omega)⟩
theorem zfW{W:Wl}(H:zan W):zsc W:=by
 have h1:=H.fs.few;refine⟨by omega,⟨by rw[H.lr];omega,fun i hi=>zdo (H.rs i (by rw[<- H.lr];exact hi))⟩,⟨by rw[H.lp];omega,fun i hi=>?_⟩,⟨by rw[H.lq];omega,fun i hi=>?_⟩,?_⟩
 ·have:=H.ps i (by rw[<- H.lp];exact hi);exact yE this (by decide)
 ·obtain⟨E,F⟩:=zby.1 (H.qs i (by rw[<- H.lq];exact hi));refine⟨yE E (by decide),fun j D=>?_⟩;have:=(F _ (List.getElem_mem D)).2;have I:=zdg this;rw[ztT D];exact⟨by omega,I.2⟩
 ·exact⟨by have:=H.pt.few;omega,(zqN H.pt).big⟩
theorem zAq(hR:zhw)(X:Nat->Prop){W Z:Wl}{L:List (Int × Bool)}{S:List Int}{E:Int}(hB:zsc W)(hL:L.length<=9223372036854775807)(h1:zeO W L=E)(U:zff W L=Z)(h3:zjO W L=S){n m:Nat}(hn:L.length=n)(hm:S.length=m){a0 a1 a2 a3 a4:Option Addr}{c0 c1 c2 c3 c4:Nat}{T:Option Addr}{lc:Nat}{V:World}(hX:∀ b,X b->b<V.heap.size)(hC:WlC ⟨a0,a1,a2,a3,a4,c0,c1,c2,c3,c4⟩ W)(hW:ziA X V ⟨a0,a1,a2,a3,a4,c0,c1,c2,c3,c4⟩ W)(hs:SlA T n lc)(hP:zdG V T L) :
  Calls Tryz.prog 20 #[.agg #[.slice a0 W.fs.length c0,.slice a1 W.rs.length c1,.slice a2 W.ps.length c2,.slice a3 W.qs.length c3,.slice a4 W.pt.length c4],.slice T n lc] V fun e w' => ∃ (D F I J M sa:Option Addr) (d0 d1 d2 d3 O sc:Nat),e=.returned (.tuple #[.agg #[.slice D Z.fs.length d0,.slice F Z.rs.length d1,.slice I Z.ps.length d2,.slice J Z.qs.length d3,.slice M Z.pt.length O],.slice sa m sc,.int .i64 E])/\Below V.heap.size V w' /\ WlC ⟨D,F,I,J,M,d0,d1,d2,d3,O⟩ Z/\ziA X w' ⟨D,F,I,J,M,d0,d1,d2,d3,O⟩ Z/\St X (fun w=>zaj w sa S) w' := by
 subst h1 U h3 hn hm;refine(hR X ⟨a0,a1,a2,a3,a4,c0,c1,c2,c3,c4⟩ W T lc L V hX hB hC hW hL hs hP).mono ?_;rintro e w' ⟨⟨D,F,I,J,M,d0,d1,d2,d3,O⟩,sa,sc,h1,U,h3,h4,h5⟩;exact⟨D,F,I,J,M,sa,d0,d1,d2,d3,O,sc,h1,U,h3,h4,h5⟩
theorem zlA(hK:zgN){W:Wl}{E:Int}(D:zsc W)(h1:zbp W=E){a0 a1 a2 a3 a4:Option Addr}{c0 c1 c2 c3 c4:Nat}{V:World}(F:WlC ⟨a0,a1,a2,a3,a4,c0,c1,c2,c3,c4⟩ W)(I:zic V ⟨a0,a1,a2,a3,a4,c0,c1,c2,c3,c4⟩ W) :
  Calls Tryz.prog 10 #[.agg #[.slice a0 W.fs.length c0,.slice a1 W.rs.length c1,.slice a2 W.ps.length c2,.slice a3 W.qs.length c3,.slice a4 W.pt.length c4]] V fun e w' => e=.returned (.int .i64 E)/\Below V.heap.size V w' := by
 subst h1;exact hK ⟨a0,a1,a2,a3,a4,c0,c1,c2,c3,c4⟩ W V D F I
theorem zdG.take{w:World}{a:Option Addr}{L:List (Int × Bool)}(h:zdG w a L)(k:Nat):zdG w a (L.take k):=fun i hi=>by
 have D:i<k/\i<L.length:=by rw[List.length_take] at hi;omega
 have e:pk (L.take k) i=pk L i:=by
  unfold pk;rw[zae _ _ hi,zae _ _ D.2,List.getElem_take]
 rw[e];exact h i D.2
theorem zdG.drop{w:World}{b o:Nat}{L:List (Int × Bool)}(h:zdG w (some ⟨b,o,none⟩) L)(k:Nat):zdG w (some ⟨b,o+k*2,none⟩) (L.drop k):=fun i hi=>by
 have D:k+i<L.length:=by rw[List.length_drop] at hi;omega
 obtain⟨E,F,e,c0,c1⟩:=h (k+i) D;cases e
 have e:pk (L.drop k) i=pk L (k+i):=by
  unfold pk;rw[zae _ _ hi,zae _ _ D,List.getElem_drop]
 rw[e];refine⟨_,_,rfl,?_,?_⟩
 ·rw[show o+k*2+i*2=o+(k+i)*2 by omega];exact c0
 ·rw[show o+k*2+i*2+1=o+(k+i)*2+1 by omega];exact c1
theorem zAV(E:Option Addr)(n D cap:Nat)(h1:D<=n)(h:SlA E n cap):∃ F,(∀ W,(Instr.slice 71 (.slice E n cap) none (some (.int .i64 (D:Int))) none).run Tryz.prog W=.ok (.slice E D F) W)/\SlA E D F:=by
 obtain⟨T,U,O⟩:=h
 cases E with
 | none =>
  have e:=T rfl;subst e;have J:n=0:=by omega
  have M:D=0:=by omega
  subst J;subst M;exact⟨0,fun W=>by go_simp,zcu⟩
 | some I =>
  obtain⟨b,o,s⟩:=I;have g1:(D:Int)<=(cap:Int):=by omega
  have g2:(0:Int)<=(D:Int):=by omega
  exact⟨cap,fun W=>by go_simp,(fun e=>by cases e),by omega,O⟩
theorem zrJ{W:Wl}{L:List (Int × Bool)}(h:zeO W L=0):zan W/\L.length<=120/\zff W L=L.foldl zdC W/\zjO W L=znv W L:=by
 have D:zbp W=0/\L.length<=120:=by
  unfold zeO at h;by_cases e:zbp W=0
  ·rw[yb e] at h;refine⟨e,?_⟩;by_cases E:120<L.length
   ·rw[yb E] at h;cases h
   ·omega
  ·rw[ya e] at h;exact absurd h e
 refine⟨zck.1 D.1,D.2,?_,?_⟩
 ·unfold zff;rw[yb h]
 ·unfold zjO;rw[yb h]
theorem zyT{W:Wl}{L:List (Int × Bool)}(H:zan W)(h:L.length<=120):zeO W L=0:=by
 unfold zeO;rw[yb (zck.2 H),ya (by omega)]
theorem zAG{X:Nat->Prop}{w V:World}{A:WA}{W:Wl}(h:zic w A W)(E:Below w.heap.size w V)(D:∀ b,X b->w.heap.size<=b):ziA X V A W:=(St.new (zAF h) D).off (zaq.of_below E)
def zxo:Prop:=∀ (A B:RA) (R Q:Rl) (w:World),zsb R->zcp w A R->zcp w B Q ->
 Calls Tryz.prog 17 #[rlV A R,rlV B Q] w fun e w' => ∃ r:Bool,e=.returned (.bool r)/\Below w.heap.size w w' /\(r=true↔R=Q)
theorem runN(hR:zhw)(X:Nat->Prop){W Z:Wl}{L:List (Int × Bool)}{S:List Int}(H:zan W)(hL:L.length<=120)(h2:L.foldl zdC W=Z)(h3:znv W L=S){n n4 m4 m:Nat}(hn:W.fs.length=n)(a5:W.pt.length=n4)(U:Z.pt.length=m4)(hm:L.length=m){a0 a1 a2 a3 a4:Option Addr}{c0 c1 c2 c3 c4:Nat}{la:Option Addr}{lc:Nat}{V:World}(hX:∀ b,X b->b<V.heap.size)(hC:WlC ⟨a0,a1,a2,a3,a4,c0,c1,c2,c3,c4⟩ W)(hW:ziA X V ⟨a0,a1,a2,a3,a4,c0,c1,c2,c3,c4⟩ W)(hs:SlA la m lc)(hP:zdG V la L) :
  Calls Tryz.prog 20 #[.agg #[.slice a0 n c0,.slice a1 n c1,.slice a2 n c2,.slice a3 n c3,.slice a4 n4 c4],.slice la m lc] V fun e w' => ∃ (E F I J M sa:Option Addr) (d0 d1 d2 d3 O sc:Nat),e=.returned (.tuple #[.agg #[.slice E n d0,.slice F n d1,.slice I n d2,.slice J n d3,.slice M m4 O],.slice sa m sc,.int .i64 0])/\Below V.heap.size V w' /\ WlC ⟨E,F,I,J,M,d0,d1,d2,d3,O⟩ Z/\ziA X w' ⟨E,F,I,J,M,d0,d1,d2,d3,O⟩ Z/\St X (fun w=>zaj w sa S) w' := by
 have hE:=zyT H hL;obtain⟨_,_,e1,e2⟩:=zrJ hE;have D:zan Z/\Z.fs.length=W.fs.length:=by rw[<- h2];exact zfX L H
 have T:S.length=m:=by rw[<- h3,ziT,hm]
 have h:=zAq hR X (zfW H) (by omega) hE (e1.trans h2) (e2.trans h3) hm T hX hC hW hs hP;rw[D.1.lr,D.1.lp,D.1.lq,D.2,H.lr,H.lp,H.lq,hn,a5,U] at h;exact h
theorem checkN(hK:zgN){W:Wl}(H:zan W){n E:Nat}(hn:W.fs.length=n)(D:W.pt.length=E){a0 a1 a2 a3 a4:Option Addr}{c0 c1 c2 c3 c4:Nat}{V:World}(F:WlC ⟨a0,a1,a2,a3,a4,c0,c1,c2,c3,c4⟩ W)(I:zic V ⟨a0,a1,a2,a3,a4,c0,c1,c2,c3,c4⟩ W) :
  Calls Tryz.prog 10 #[.agg #[.slice a0 n c0,.slice a1 n c1,.slice a2 n c2,.slice a3 n c3,.slice a4 E c4]] V fun e w' => e=.returned (.int .i64 0)/\Below V.heap.size V w' := by
 have h:=zlA hK (zfW H) (zck.2 H) F I;rw[H.lr,H.lp,H.lq,hn,D] at h;exact h
section
variable {P:Program} {ops:Array Oper} {Q:Exit->Act->World->Prop} {md:Region.Mode} {S:World->Prop} {x:Nat}
def zdD(P:Program)(md:Region.Mode)(ops:Array Oper)(Q:Exit->Act->World->Prop)(S:World->Prop)(x:Nat):Nat->Array Bool->Act->World->Prop
 | 0,listed,a,w=>Region.ready md ops listed=[]/\Q .normal a w
 | fuel+1,listed,a,w =>
  (Region.ready md ops listed=[]->Q .normal a w) /\
  ∀ i ∈ Region.ready md ops listed,wpOp P ops Q i (fun D w' => (i=x\/S w')/\zdD P md ops Q S x fuel (listed.setIfInBounds i true) D w') a w
theorem zlf:∀ (fuel:Nat) (listed:Array Bool) (a:Act) (w:World),zdD P md ops Q S x fuel listed a w->wpAny P md ops Q fuel listed a w
 | 0,_,_,_,h=>h
 | fuel+1,_,_,_,h=>⟨h.1,fun i hi=>wpOp_mono (fun D w' E=>zlf fuel _ D w' E.2) (h.2 i hi)⟩
def waits(md:Region.Mode)(ops:Array Oper)(x i:Nat):Bool:=match ops[x]? with
 | some o=>o.after.any (fun e=>Region.binds md e && e.on == i)
 | none=>false
theorem znK{i:Nat}{U:Oper}{v:Value}(hi:ops[i]?=some U)(O:∀ (j:Nat) (o:Oper) cs b,ops[j]?=some o->o.op≠.select cs b)(hX:waits md ops x i=true)
  (hQ:∀ c a w,Q (.panic c) (a.put U.dst v) w->Q (.panic c) a w) :
  ∀ (fuel:Nat) (listed:Array Bool) (a:Act) (w:World),
   (∀ j Z,ops[j]?=some Z->j≠i->listed.getD j true=false->(∀ e ∈ Z.after,Region.binds md e=true->e.on≠i)->U.apart ops Z=true) ->
   i ∈ Region.ready md ops listed->YieldsIf P ops S U v a->S w ->
   zdD P md ops Q S x fuel (listed.setIfInBounds i true) (a.put U.dst v) w->zdD P md ops Q S x (fuel+1) listed a w:=by
 intro fuel
 induction fuel with
 | zero =>
  intro listed a w _ T hy hS H;refine⟨fun h=>(by rw[h] at T;cases T),fun j hj=>?_⟩;by_cases D:j=i
  ·subst D;exact hy.wpOp hi hS ⟨Or.inr hS,H⟩
  ·have:=ready_mono hj D;rw[H.1] at this;cases this
 | succ fuel ih =>
  intro listed a w E T hy hS H;refine⟨fun h=>(by rw[h] at T;cases T),fun j hj=>?_⟩;by_cases D:j=i
  ·subst D;exact hy.wpOp hi hS ⟨Or.inr hS,H⟩
  ·have h1:=H.2 j (ready_mono hj D);obtain⟨J,Z,I,a6⟩:=mem_ready.1 hj
   have M:∀ e ∈ Z.after,Region.binds md e=true->e.on≠i:=fun e he hb a9=>by
    have h1:=a6 e he hb;have h0:=(mem_ready.1 T).1;rw[a9] at h1;rcases Nat.lt_or_ge i listed.size with h' | h'
    ·simp[h'] at h0 h1;rw[h0] at h1;cases h1
    ·simp[Array.getElem?_eq_none h'] at h1
   have b0:j≠x:=fun e=>by
    subst e;unfold waits at hX;rw[I] at hX;simp only[Array.any_eq_true,Bool.and_eq_true] at hX;obtain⟨k,hk,h5,h6⟩:=hX;exact M _ (Array.getElem_mem hk) h5 (by simpa using h6)
   have h2:=wpOp_putIf I (E j Z I D J M) (fun cs b=>O i U cs b hi) (fun cs b=>O j Z cs b I) hQ hy h1
   have F:∀ k ok,ops[k]?=some ok->k≠i->(listed.setIfInBounds j true).getD k true=false ->
     (∀ e ∈ ok.after,Region.binds md e=true->e.on≠i)->U.apart ops ok=true:=fun k ok hk b1 a8 b2=>by
    refine E k ok hk b1 ?_ b2;by_cases a7:j=k
    ·subst a7;exact J
    ·rw[getD_set_ne true a7] at a8;exact a8
   refine wpOp_mono (fun a' w' h3=>?_) h2;have a5:S w' := h3.2.1.resolve_left b0;refine⟨Or.inr a5,ih (listed.setIfInBounds j true) a' w' F (ready_mono T (Ne.symm D)) h3.1 a5 ?_⟩;rw[Array.setIfInBounds_comm _ _ D];exact h3.2.2
theorem zpn{i:Nat}{D:Oper}{v:Value}{fuel:Nat}{listed:Array Bool}{a:Act}{w:World}(hi:ops[i]?=some D)
  (hs:Region.noSelect ops=true) (J:Region.free md ops listed i=true) (M:(Region.ready md ops listed).contains i=true) (I:waits md ops x i=true)
  (E:∀ c a w,Q (.panic c) (a.put D.dst v) w->Q (.panic c) a w) (O:YieldsIf P ops S D v a) (F:S w)
  (h:zdD P md ops Q S x fuel (listed.setIfInBounds i true) (a.put D.dst v) w):zdD P md ops Q S x (fuel+1) listed a w :=
 znK hi (Region.noSelect_spec hs) I E fuel listed a w (Region.free_spec hi J) (by simpa using M) O F h
theorem zaf{i:Nat}{D:Oper}{v:Value}{fuel:Nat}{listed:Array Bool}{a:Act}{w:World}(h:zdD P md ops Q S x fuel (listed.setIfInBounds i true) (a.put D.dst v) w)(hi:ops[i]?=some D:=by rfl)
  (hs:Region.noSelect ops=true:=by kernel_rfl) (M:Region.free md ops listed i=true:=by kernel_rfl) (O:(Region.ready md ops listed).contains i=true:=by kernel_rfl) (J:waits md ops x i=true:=by kernel_rfl)
  (F:∀ c a w,Q (.panic c) (a.put D.dst v) w->Q (.panic c) a w:=by exact fun _ _ _ h=>h) (I:S w:=by assumption) (T:YieldsIf P ops S D v a:=by exact Or.inl ⟨by rfl,by intro w E;(try dsimp only at E);first|(go_simp;done)|(go_simp;with_reducible rfl)⟩):zdD P md ops Q S x (fuel+1) listed a w :=
 zpn hi hs M O J F T I h
theorem zbB{i:Nat}{o:Oper}{fuel:Nat}{listed:Array Bool}{a:Act}{w:World}(I:Region.ready md ops listed=[i])(M:ops[i]?=some o)
  (h:∀ D:Act->World->Prop,Shut (∀ a w,S w->(S w->zdD P md ops Q S x fuel (listed.setIfInBounds i true) a w)->D a w)->if Region.wanted o (yielded ops a.tmps)=true then Oper.wp P o a w D Q else D (a.put o.dst undef) w) :
  zdD P md ops Q S x (fuel+1) listed a w:=by
 refine⟨fun h0=>(by rw[I] at h0;cases h0),fun j E=>?_⟩;rw[I] at E;have E:j=i:=by simpa using E
 subst E;exact wpOp_step M (fun D hK=>h D (fun a w F J=>hK a w ⟨Or.inr F,J F⟩))
theorem zeU{o:Oper}{fuel:Nat}{listed:Array Bool}{a:Act}{w:World}(F:Region.ready md ops listed=[x])(J:ops[x]?=some o)
  (h:∀ D:Act->World->Prop,Shut (∀ a w,zdD P md ops Q S x fuel (listed.setIfInBounds x true) a w->D a w)->if Region.wanted o (yielded ops a.tmps)=true then Oper.wp P o a w D Q else D (a.put o.dst undef) w) :
  zdD P md ops Q S x (fuel+1) listed a w:=by
 refine⟨fun h0=>(by rw[F] at h0;cases h0),fun j E=>?_⟩;rw[F] at E;have E:j=x:=by simpa using E
 subst E;exact wpOp_step J (fun D hK=>h D (fun a w I=>hK a w ⟨Or.inl rfl,I⟩))
theorem zeT{listed:Array Bool}{a:Act}{w:World}(D:Region.ready md ops listed=[])(h:Q .normal a w) :
  ∀ fuel,zdD P md ops Q S x fuel listed a w
 | 0=>⟨D,h⟩
 | _+1=>⟨fun _=>h,by rw[D];simp⟩
theorem zeV{id:Nat}{a:Act}{w:World}(x:Nat)(E:P.follows .mixedOrders=true)(D:S w.drew)
  (h:S w.drew->zdD P .any ops Q S x ops.size (Array.replicate ops.size false) a w.drew):(Code.region id ops true).wp P Q a w :=
 wp_region_any E (zlf _ _ _ _ (h D))
end
theorem zty:(Tryz.prog.info? 47).map (fun i=>(i.zero,i.size,i.bytes))=some (some (.agg #[.slice none 0 0]),1,24):=by kernel_rfl
def GrV(w:World)(v:Value)(G:List Cl):Prop:=∃ ga gc,v=.slice ga G.length gc/\zaG w ga G
theorem GrV.below{w w' : World}{v:Value}{G:List Cl}(h:GrV w v G)(D:Below w.heap.size w w'):GrV w' v G:=by
 obtain⟨ga,gc,e,hg⟩:=h;exact⟨ga,gc,e,hg.below D⟩
def grow(n:Nat)(J:Nat->Value):List Value:=(List.range n).map J
theorem zpE(n:Nat)(J:Nat->Value):(grow n J).length=n:=by unfold grow;simp
theorem zto{n:Nat}{J:Nat->Value}{i:Nat}(h:i<n):(grow n J)[i]?=some (J i):=by unfold grow;simp[h]
theorem ztp(n:Nat)(J:Nat->Value)(v:Value):grow n J++[v]=grow (n+1) (fun i=>if i=n then v else J i):=by
 unfold grow;rw[List.range_succ,List.map_append]
 congr 1
 ·refine List.map_congr_left (fun i hi=>?_);have:=List.mem_range.1 hi;rw[ya (by omega)]
 ·simp
theorem zyx{B:Nat}{w:World}{v:Value}{C:List (List Cl)}{J:Nat->Value}(h:w.ownsRow B 47 1 v C.length (grow C.length J))(hg:∀ i,i<C.length->GrV w (J i) (gr C i)):znO w v C:=by
 have hc:=fun g hg=>h.cells (g:=g) hg;rcases h.2 with ⟨rfl,h0⟩ |⟨g,cap,I,rfl,_,_,D,E,_⟩
 ·exact⟨none,0,by rw[h0],⟨fun _=>rfl,by omega,by omega⟩,fun i hi=>by omega⟩
 ·refine⟨some ⟨g,0,none⟩,cap,rfl,⟨(fun h=>by cases h),D,(by unfold maxLen at E;omega)⟩,fun i hi=>?_⟩;obtain⟨ga,gc,e,F⟩:=hg i hi;refine⟨g,0,ga,gc,rfl,?_,F⟩;have:=hc g rfl i (J i) (zto hi);rw[Addr.add_lit,yz] at this;rw[yz,this,e]
theorem zAY{W:World}{b:Nat}{v:Value}(c0:W.cell? ⟨b,0,none⟩=some v):∀ j u,([v]:List Value)[j]?=some u->W.cell? ((⟨b,0,none⟩:Addr).add j)=some u:=fun j u D=>by
 rw[Addr.add_lit]
 match j,D with
 | 0,D=>cases D;exact c0
 | j+1,D=>simp at D
theorem zqP(w:World)(r:Option Nat):w.grownBy w r:=⟨rfl,rfl,rfl,yj _,fun _ _ _=>rfl⟩
theorem zjV{P:Program}{ops:Array Oper}{o:Oper}{a:Act}{w:World}{K:Act->World->Prop}{Q:Exit->Act->World->Prop}{E:Prop}
  (hg:o.guard=none) (s x:Operand) (t:TypeId) (M:o.op=Op.call { callee:=Callee.builtin Builtin.append,args:=#[s,x],argTypes:=#[t,t] })
  (base:Nat) (e:TypeId) (i:TypeInfo) (z:Value) (size bytes:Nat) (h1:P.underlying t=some (.slice e)) (h2:P.info? e=some i) (h3:i.zero=some z) (h4:i.size=size) (h5:i.bytes=bytes) (h6:z.cells.size=size) (h7:0<size)
  (v:Value) (n:Nat) (U:List Value) (hs:a.eval s=v) (D:w.ownsRow base e size v n U)
  (sa:Option Addr) (m c:Nat) (news:List Value) (J:sa=none->m=0/\c=0) (hx:a.eval x=.slice sa m c) (hn:news.length=m*size) (hc:∀ I,sa=some I->∀ j u,news[j]?=some u->w.cell? (I.add j)=some u) (Z:∀ u ∈ news,u.oneCell' = true)
  (b1:n+m<=maxLen) (b2:(n+m)*bytes<=140737488355328) (F:base<=w.heap.size)
  (hK:∀ T w', w'.ownsRow base e size T (n+m) (U++news)->w.grownBy w' v.ownBlock->K (a.put o.dst T) w') :
  if Region.wanted o (yielded ops a.tmps)=true then Oper.wp P o a w K Q else E:=by
 have hw:Region.wanted o (yielded ops a.tmps)=true:=by simp[Region.wanted,hg]
 rw[yb hw]
 cases sa with
 | some I=>exact wp_append_own w s x t M base e i z size bytes h1 h2 h3 h4 h5 h6 h7 v n U hs D I m c news hx hn (hc I rfl) Z b1 b2 F (fun T w' r1 r2 _=>hK T w' r1 r2)
 | none =>
  obtain⟨rfl,rfl⟩:=J rfl;have en:news=[]:=List.eq_nil_of_length_eq_zero (by rw[hn];simp);subst en;have O:=run_append_owned_none (P:=P) (w:=w) base t o.type e i size h1 h2 v n U D;unfold Oper.wp;simp[execOp,M,resolve,invoke,builtin,hs,hx,O,Result.andThen];exact hK v w (by simpa using D) (zqP w _)
section
variable {P:Program} {ops:Array Oper} {Q:Exit->Act->World->Prop} {md:Region.Mode} {S:World->Prop} {x:Nat}
end
theorem zgg(x m:Int)(w:World) :
  Calls Tryz.prog 98 #[.int .i64 x,.int .i64 m] w fun e w' => e=.returned (.bool (decide (0<=x/\x<m)))/\w' = w:=by
 by_cases h1:0<=x
 ·have d1:decide (0<=x)=true:=decide_eq_true h1;by_cases D:x<m
  ·have d2:decide (x<m)=true:=decide_eq_true D;rw[decide_eq_true (⟨h1,D⟩:0<=x/\x<m)]
   go_enter Tryz.func98,Tryz.ntmps98
   go_wp2
   go_ret;exact⟨rfl,rfl⟩
  ·have d2:decide (x<m)=false:=decide_eq_false D;rw[decide_eq_false (fun h=>D h.2:¬ (0<=x/\x<m))]
   go_enter Tryz.func98,Tryz.ntmps98
   go_wp2
   go_ret;exact⟨rfl,rfl⟩
 ·have d1:decide (0<=x)=false:=decide_eq_false h1;rw[decide_eq_false (fun h=>h1 h.1:¬ (0<=x/\x<m))]
  go_enter Tryz.func98,Tryz.ntmps98
  go_wp2
  go_ret;exact⟨rfl,rfl⟩
theorem zkS(a:Option Addr)(n c:Nat)(k:Int)(w:World)(hn:n<=1000) :
  Calls Tryz.prog 99 #[.slice a n c,.int .i64 k] w fun e w' => e=.returned (.bool (decide (0<=k/\k<=(n:Int)-1)))/\w' = w:=by
 obtain⟨Q,D⟩:∃ Q:Int,(n:Int)-1=Q:=⟨_,rfl⟩;have I:IntKind.i64.wrap ((n:Int)-1)=Q:=by rw[IntKind.wrap_i64,<- D];omega
 have E:=fun W=>zaQ k 0 Q W;rw[D];clear D;generalize decide (0<=k/\k<=Q)=r at E |-;have F:Hid _:=E;clear E
 go_enter Tryz.func99,Tryz.ntmps99
 go_wp2_with (go_at_call 66;refine(F.out _).mono ?_;rintro e w' ⟨rfl,rfl⟩)
 go_ret;exact⟨rfl,rfl⟩
theorem ziv(k:Int)(w:World) :
  Calls Tryz.prog 100 #[.int .i64 k] w fun e w' => e=.returned (.bool (decide (0<=k/\k<=1000)))/\w' = w:=by
 have D:=fun W=>zaQ k 0 1000 W;generalize decide (0<=k/\k<=1000)=r at D |-;have E:Hid _:=D;clear D
 go_enter Tryz.func100,Tryz.ntmps100
 go_wp2_with (go_at_call 66;refine(E.out _).mono ?_;rintro e w' ⟨rfl,rfl⟩)
 go_ret;exact⟨rfl,rfl⟩
def zsC(l:Nat)(s:Bool)(G:Int):Int:=if 16<l\/(0<l/\s=true) then 1 else G
theorem zlv(x:Pt)(ca:Option Addr)(cc:Nat)(w:World)(b2:x.cm.length<=9223372036854775807)(hB:zze x.cm)(hg:zkf w ca x.cm) :
  Calls Tryz.prog 101 #[.agg #[.int .i64 x.o,.int .i64 x.t,.int .i64 x.m,.slice ca x.cm.length cc,.bool x.s]] w fun e w' => e=.returned (.int .i64 (zsC x.cm.length x.s (zbo x.cm)))/\Below w.heap.size w w' := by
 have HG:Hid (zkf w ca x.cm):=hg;have BG:Hid (zze x.cm):=hB;have GS:Hid (∀ j,j<x.cm.length->zbo (x.cm.drop j)=if zav (gr x.cm j)=0 then zbo (x.cm.drop (j+1)) else zav (gr x.cm j)):=fun j hj=>zot hj;have GN:Hid (zbo (x.cm.drop x.cm.length)=0):=zqO _;have T:Hid (zbo (x.cm.drop 0)=zbo x.cm):=by show zbo _=_;rw[List.drop_zero]
 clear hg hB;obtain⟨xo,xt,xm,C,xs⟩:=x;dsimp only at *;obtain⟨cl,F⟩:∃ z,C.length=z:=⟨_,rfl⟩;have HC:Hid (C.length=cl):=F;rw[F] at b2 GS GN |-;clear F;unfold zsC;by_cases b4:16<cl
 ·rw[yb (Or.inl b4)];have g1:decide ((16:Int)<(cl:Int))=true:=decide_eq_true (by omega);clear HG BG GS GN T
  go_enter Tryz.func101,Tryz.ntmps101
  go_wp2_with fail
  go_ret;exact⟨rfl,zaa _ _⟩
 ·have g1:decide ((16:Int)<(cl:Int))=false:=decide_eq_false (by omega)
  have I:Hid (∀ (O:Int),zbo C=O->(cl=0\/xs=false)->Calls Tryz.prog 101 #[.agg #[.int .i64 xo,.int .i64 xt,.int .i64 xm,.slice ca cl cc,.bool xs]] w fun e w' => e=.returned (.int .i64 O)/\Below w.heap.size w w'):=fun O b0 a6=>by
   rw[b0] at T;clear b0;by_cases h0:0<cl
   ·have b5:xs=false:=by rcases a6 with h|h;omega;exact h
    subst b5;have g2:decide ((0:Int)<(cl:Int))=true:=decide_eq_true (by omega);clear a6
    go_enter Tryz.func101,Tryz.ntmps101
    go_wp2_with fail
    go_loopg [23] cl (fun g s23 wr=>∃ j:Nat,j<=cl/\cl-j<=g/\s23=.int .i64 j/\Hid (Below w.heap.size w wr)/\Hid (zbo (C.drop j)=O))
    case atStart=>exact⟨0,by omega,by omega,rfl,zaa _ _,T⟩
    case round =>
     obtain⟨j,hj,b9,rfl,D,J⟩:=hrel;clear T;by_cases a5:j<cl
     ·have b6:(j:Int)<(cl:Int):=by omega
      obtain⟨b,o,ga,gc,ea,c0,F⟩:=(HG.out.below D.out) j (by rw[HC.out];exact a5);subst ea;have b8:b<wr.heap.size:=yd _ _ c0;obtain⟨b3,a9⟩:=BG.out j (by rw[HC.out];exact a5);have D1:Hid (∀ o1:Obj,_):=fun o1=>zfP ga gc (gr C j) (wr.alloc o1) b3 a9 (F.below (zaa _ _));have a8:=(GS.out j a5).symm.trans J.out;have M:Hid _:=a8;clear F a9 a8 J;generalize gr C j=G at *;generalize zav G=E at *;generalize G.length=gl at *
      go_wp2_with fail
      refine ye (D1.out _) ?_;rintro e w1 ⟨rfl,b1⟩;have a7:Hid (Below w.heap.size w w1):=D.out.trans (((zaa _ _).trans (b1.mono (by simp))).mono D.out.size);clear b1 D1;by_cases hE:E=0
      ·have U:Hid (zbo (C.drop (j+1))=O):=by have:=M.out;rw[yb hE] at this;exact this
       subst hE;clear M
       go_wp2_with fail
       go_roundg (cl-(j+1))
       case measure=>omega
       case rel=>exact⟨j+1,by omega,by omega,by go_num,a7,U⟩
      ·have U:Hid (E=O):=by have:=M.out;rw[ya hE] at this;exact this
       have y1:decide (E=0)=false:=decide_eq_false hE;have y2:(E == 0)=false:=by simp[hE]
       clear M
       go_wp2_with fail
       go_ret;exact⟨by rw[U.out];rfl,a7.out⟩
     ·have e:j=cl:=by omega
      have Z:Hid (0=O):=by have:=J.out;rw[e,GN.out] at this;exact this
      have b7:decide ((j:Int)<(cl:Int))=false:=decide_eq_false (by omega);clear J e
      go_wp2_with fail
      go_ret;exact⟨by rw[Z.out];rfl,D.out⟩
   ·have hz:cl=0:=by omega
    subst hz;have Z:Hid (0=O):=by have h1:=T.out;have h2:=GN.out;show _=_;rw[<- h1,<- h2]
    clear a6 GS GN T HG BG
    go_enter Tryz.func101,Tryz.ntmps101
    go_wp2_with fail
    go_loopg [23] 0 (fun g s23 wr=>s23=.int .i64 0/\Hid (Below w.heap.size w wr))
    case atStart=>exact⟨rfl,zaa _ _⟩
    case round =>
     obtain⟨rfl,D⟩:=hrel
     go_wp2_with fail
     go_ret;exact⟨by rw[Z.out];rfl,D.out⟩
  by_cases h0:0<cl
  ·cases xs
   ·rw[ya (fun h=>by rcases h with h|h;omega;cases h.2)];exact I.out _ rfl (Or.inr rfl)
   ·rw[yb (Or.inr ⟨h0,rfl⟩)];have g2:decide ((0:Int)<(cl:Int))=true:=decide_eq_true (by omega);clear HG BG GS GN T I
    go_enter Tryz.func101,Tryz.ntmps101
    go_wp2_with fail
    go_ret;exact⟨rfl,zaa _ _⟩
  ·rw[ya (fun h=>by rcases h with h|h;omega;omega)];exact I.out _ rfl (Or.inl (by omega))
theorem zgd(Fr o t:Int)(w:World) :
  Calls Tryz.prog 158 #[.int .i64 Fr,.int .i64 o,.int .i64 t] w fun e w' => e=.returned (.int .i64 (zcy Fr o t))/\w' = w:=by
 have J:Hid (∀ W,_):=fun W=>zgg o Fr W;have M:Hid (∀ W,_):=fun W=>ziv t W;unfold zcy;by_cases E:0<=o/\o<Fr
 ·rw[decide_eq_true E] at J;rw[ya (not_not_intro E)];by_cases I:0<=t/\t<=1000
  ·rw[decide_eq_true I] at M;rw[ya (not_not_intro I)];clear E I
   go_enter Tryz.func158,Tryz.ntmps158
   go_wp2_with fail
   refine ye (J.out _) ?_;rintro e O ⟨rfl,D⟩;subst D
   go_wp2_with fail
   refine ye (M.out _) ?_;rintro e w3 ⟨rfl,F⟩;subst F
   go_wp2_with fail
   go_ret;exact⟨rfl,rfl⟩
  ·rw[decide_eq_false I] at M;rw[yb I];clear E I
   go_enter Tryz.func158,Tryz.ntmps158
   go_wp2_with fail
   refine ye (J.out _) ?_;rintro e O ⟨rfl,D⟩;subst D
   go_wp2_with fail
   refine ye (M.out _) ?_;rintro e w3 ⟨rfl,F⟩;subst F
   go_wp2_with fail
   go_ret;exact⟨rfl,rfl⟩
 ·rw[decide_eq_false E] at J;rw[yb E];clear E
  go_enter Tryz.func158,Tryz.ntmps158
  go_wp2_with fail
  refine ye (J.out _) ?_;rintro e O ⟨rfl,D⟩;subst D
  go_wp2_with fail
  go_ret;exact⟨rfl,rfl⟩
end Go.Proofs.YtcbcpomacdngmaaGreat
