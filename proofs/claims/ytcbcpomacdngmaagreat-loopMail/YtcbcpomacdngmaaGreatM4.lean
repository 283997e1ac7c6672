/-
  x
-/
import Derived.Test.YtcbcpomacdngmaaGreatM3
import Derived.Laws.EntriesVeiled
namespace Go.Proofs.YtcbcpomacdngmaaGreat
set_option maxRecDepth 100000
set_option maxHeartbeats 4000000
set_option linter.unusedVariables false
open Go.RowKit
theorem ztS{w w1:World}{a:Option Addr}{n c:Nat}{p u:Int}{o3:Obj}(D:Below (w.heap.size+1+1+1) (((w.alloc (.cells #[.slice a n c] 43)).alloc (.cells #[.int .i64 p,.int .i64 u] 61)).alloc o3) w1) :
  w1.cell? ⟨w.heap.size,0,none⟩=some (.slice a n c)/\w1.cell? ⟨w.heap.size+1,0,none⟩=some (.int .i64 p)/\w1.cell? ⟨w.heap.size+1,1,none⟩=some (.int .i64 u) :=
 ⟨(D.cell (by simp;omega)).trans (by go_simp),(D.cell (by simp)).trans (by go_simp),(D.cell (by simp)).trans (by go_simp)⟩
theorem zfe(W:World)(b:Nat)(p u:Int)(h1:W.cell? ⟨b,0,none⟩=some (.int .i64 p))(D:W.cell? ⟨b,1,none⟩=some (.int .i64 u)):zaw W (some ⟨b,0,none⟩) [(p,u)]:=fun i hi=>by
 have:i=0:=by simpa using hi
 subst this;exact⟨b,0,rfl,by simpa using h1,by simpa using D⟩
theorem zol{W F:World}{v:Value}{l:List Int}(D:F.ownsRow W.heap.size 3 1 v l.length (l.map (Value.int .i64))):∃ sa cap,v=.slice sa l.length cap/\zal F sa l/\l.length<=cap/\cap<=9223372036854775807:=by
 obtain⟨hl,h⟩:=D;rcases h with ⟨rfl,h0⟩ |⟨g,cap,E,rfl,_,hg,h1,I,M,J⟩
 ·exact⟨none,0,by rw[h0],fun i hi=>by omega,by omega,by omega⟩
 ·refine⟨some ⟨g,0,none⟩,cap,rfl,fun i hi=>⟨g,0,rfl,?_⟩,h1,by unfold maxLen at I;omega⟩
  have h5:(E.toList.take (l.length*1))[i]?=some (.int .i64 (l.getD i 0)):=by
   rw[J,List.getElem?_map,List.getElem?_eq_getElem hi,zae l 0 hi];rfl
  rw[List.getElem?_take,yb (by omega)] at h5;simp only[yz,World.cell?,hg];simpa using h5
theorem zpV(ks:Nat->List Int)(n K:Nat)(E:Array Value)(k f:Nat)(w:World)
  (eg:∀ args w,(callFunc K args).run Tryz.prog w=.ok (.enter K args) w)
  (I:∀ p,p<n->∃ ka kc,(ks p).length<=9223372036854775807/\(∀ w1,Below w.heap.size w w1->zal w1 ka (ks p))/\∀ w1,Below w.heap.size w w1->yL K (#[.int .i64 p] ++ E) w1 fun e D=>e=.returned (.slice ka (ks p).length kc)/\Below w1.heap.size w1 D)
  (Z:k<n) (hD:zpZ ks n f k) (hlen:(zbV ks f k).length<=1000000) :
  yL 204 #[.int .i64 k,.func (.func K) #[] E] w fun e w' => ∃ sa cap,e=.returned (.slice sa (zbV ks f k).length cap)/\Below w.heap.size w w' /\ zal w' sa (zbV ks f k)/\(zbV ks f k).length<=cap/\cap<=9223372036854775807:=by
 have D2:Hid (∀ (w1:World),w.heap.size+3<=w1.heap.size->Below w.heap.size w w1 ->
   w1.cell? ⟨w.heap.size,0,none⟩=some (.func (.func K) #[] E) ->
   w1.cell? ⟨w.heap.size+2,0,none⟩=some (.func (.func 215) #[] #[.pointer (some ⟨w.heap.size+1,0,none⟩),.pointer (some ⟨w.heap.size,0,none⟩),.pointer (some ⟨w.heap.size+2,0,none⟩)]) ->
   w1.cell? ⟨w.heap.size+1,0,none⟩=some (.slice none 0 0)->w1.frozen? ⟨w.heap.size+1,0,none⟩=false ->
   yL 215 #[.int .i64 k,.pointer (some ⟨w.heap.size+1,0,none⟩),.pointer (some ⟨w.heap.size,0,none⟩),.pointer (some ⟨w.heap.size+2,0,none⟩)] w1 fun e D=>e=.returned (.tuple #[])/\zmf w1 (w.heap.size+1) (zbV ks f k) D):=fun w1 a7 O h1 J h3 h4=>by
  have M:∀ D,Off (fun k=>k=w.heap.size+1) w1 D->Below w.heap.size w D:=fun D J=>O.trans (J.below O.size (fun k Z=>by rw[Z];omega))
  have h:=zuN ks n K E w1 (w.heap.size+1) w.heap.size (w.heap.size+2) (by omega) (by omega) (by omega) (by omega) (by omega) eg h1 J (fun p hp=>by
   obtain⟨ka,kc,r0,r1,r2⟩:=I p hp;exact⟨ka,kc,r0,fun D J=>r1 D (M D J),fun D J=>r2 D (M D J)⟩) f k [] w1 Z hD (by simpa using hlen) ⟨Off.refl _ _,_,h3,h4,World.ownsRow_nil _ _ _ _⟩
  simpa using h
 clear I hD;generalize hl:zbV ks f k=l at *;have HL:Hid _:=hl;clear hl
 go_enter Tryz.func204,Tryz.ntmps204
 go_wp2_with fail
 refine(D2.out _ (by simp) ((((yk _ _).alloc (yj _) _).alloc (by simp) _).alloc (by simp;omega) _) (by go_simp) (by go_simp) (by go_simp) (by go_simp)).mono ?_;rintro e D ⟨rfl,hO,v,hc,hf,F⟩;obtain⟨sa,cap,rfl,U,T,a6⟩:=zol F;have a5:Hid _:=U;have HB:Below w.heap.size w D:=((((yk _ _).alloc (yj _) _).alloc (by simp) _).alloc (by simp;omega) _).trans (hO.below (by simp;omega) (fun k Z=>by rw[Z];omega));clear F hO U
 go_wp2
 refine yv (v:=.slice sa l.length cap) (by simp[results,Tryz.results204,go_sem]) rfl ⟨sa,cap,rfl,HB,a5.out,T,a6⟩
theorem zrd(a:Option Addr)(c:Nat)(S:List Nd)(D p:Nat)(ka:Option Addr)(kc:Nat)(L:Nat)(w1:World)(M:p<S.length)(F:w1.cell? ⟨D,0,none⟩=some (.slice a S.length c))
  (hc:∃ b o,a=some ⟨b,o,none⟩/\w1.cell? ⟨b,o+p*8+5,none⟩=some (.slice ka L kc)) :
  yL 209 #[.int .i64 p,.pointer (some ⟨D,0,none⟩)] w1 fun e J=>e=.returned (.slice ka L kc)/\Below w1.heap.size w1 J:=by
 obtain⟨b,o,rfl,E⟩:=hc;have I:(p:Int)<(S.length:Int):=by omega
 generalize S.length=n at *
 go_enter Tryz.func209,Tryz.ntmps209
 go_wp2
 go_ret;exact⟨rfl,yk _ _⟩
theorem ztR(a:Option Addr)(c:Nat)(S:List Nd)(p u E:Int)(w:World)(Z:S.length<=9223372036854775807)(I:Big S)(M:zah w a S)(J:zbd S [(p,u)]=E)(D:E≠0) :
  yL 199 #[.agg #[.slice a S.length c],.agg #[.int .i64 p,.int .i64 u]] w fun e w' => e=.returned (.tuple #[.slice none 0 0,.int .i64 E])/\Below w.heap.size w w' := by
 have d1:=fun(W:World) (ha:Option Addr) (hW:zah W a S) (U:zaw W ha [(p,u)])=>zdq a c S ha 1 [(p,u)] W Z I hW (by simp) U;rw[J] at d1;have O:Hid _:=d1;have T:Hid (zah w a S):=M;clear M d1 J I;have hz:(E == 0)=false:=by simp[D]
 generalize S.length=n at *
 go_enter Tryz.func199,Tryz.ntmps199
 go_wp2_with (go_at_call 185;refine(O.out _ _ (T.out.below ((((yk _ _).alloc (yj _) _).alloc (by simp) _).alloc (by simp;omega) _)) (zfe _ _ _ _ (by go_simp) (by go_simp))).mono ?_;rintro e w1 ⟨rfl,F⟩)
 refine yv (v:=.tuple #[.slice none 0 0,.int .i64 E]) (by simp[results,Tryz.results199,go_sem]) rfl ⟨rfl,?_⟩;exact((((yk _ _).alloc (yj _) _).alloc (by simp) _).alloc (by simp;omega) _).trans (F.mono (by simp;omega))
theorem zlK(a:Option Addr)(c:Nat)(S:List Nd)(k f:Nat)(u:Int)(w:World)(hN:S.length<=9223372036854775807)(hB:Big S)(hS:zah w a S)(hE:zbd S [((k:Int),u)]=0)(hk:k<S.length)(hD:Deep S f k)(hlen:(zbi S f k).length<=1000000) :
  yL 199 #[.agg #[.slice a S.length c],.agg #[.int .i64 k,.int .i64 u]] w fun e w' => ∃ sa cap,e=.returned (.tuple #[.slice sa (zbi S f k).length cap,.int .i64 0])/\Below w.heap.size w w' /\ zal w' sa (zbi S f k)/\(zbi S f k).length<=cap/\cap<=9223372036854775807:=by
 have d1:=fun(W:World) (ha:Option Addr) (hW:zah W a S) (hH:zaw W ha [((k:Int),u)])=>zdq a c S ha 1 [((k:Int),u)] W hN hB hW (by simp) hH;rw[hE] at d1;have D1:Hid _:=d1;have HS:Hid (zah w a S):=hS
 have D2:Hid (∀ (w1:World) (M:Nat),w1.cell? ⟨M,0,none⟩=some (.slice a S.length c)->Below w.heap.size w w1 ->
   yL 204 #[.int .i64 k,.func (.func 209) #[] #[.pointer (some ⟨M,0,none⟩)]] w1 fun e w' => ∃ sa cap,e=.returned (.slice sa (zbi S f k).length cap)/\Below w1.heap.size w1 w' /\ zal w' sa (zbi S f k)/\(zbi S f k).length<=cap/\cap<=9223372036854775807):=fun w1 M h1 D=>by
  have a6:=yd _ _ h1
  have h:=zpV (fun p=>(nd S p).ks) S.length 209 #[.pointer (some ⟨M,0,none⟩)] k f w1 (yJ Tryz.func209 (by kernel_rfl) rfl) (fun p hp=>by
   obtain⟨b,o,ea,c0,c1,c2,c3,c4,⟨ka,kc,c5,a8⟩,c6,c7⟩:=hS p hp;have F:∀ E,Below w1.heap.size w1 E->Below w.heap.size w E:=fun E J=>D.trans (J.mono D.size);exact⟨ka,kc,hB p hp,fun E J=>a8.below (F E J),fun E J=>zrd a c S M p ka kc _ E hp ((J.cell (by exact a6)).trans h1) ⟨b,o,ea,((F E J).cell (by exact yd _ _ c5)).trans c5⟩⟩) hk (zpd hD) (by rw[zjm];exact hlen)
  rw[zjm] at h;exact h
 clear hS d1 hE hB hD;generalize S.length=n at *;generalize hl:zbi S f k=l at *;have HL:Hid _:=hl;clear hl
 go_enter Tryz.func199,Tryz.ntmps199
 go_wp2_with (first
  |(go_at_call 185;refine(D1.out _ _ (HS.out.below ((((yk _ _).alloc (yj _) _).alloc (by simp) _).alloc (by simp;omega) _)) (zfe _ _ _ _ (by go_simp) (by go_simp))).mono ?_;rintro e w1 ⟨rfl,D⟩;simp only[yr] at D;obtain⟨l0,l1,l2⟩:=ztS D;have a9:=D.size;simp only[yr] at a9;have I:Below w.heap.size w w1:=((((yk _ _).alloc (yj _) _).alloc (by simp) _).alloc (by simp;omega) _).trans (D.mono (by omega)))
  |(go_at_call 204;refine(D2.out _ _ l0 I).mono ?_;rintro e E ⟨sa,cap,rfl,O,U,T,a7⟩;have a5:Hid _:=U;clear U;have Z:Hid _:=O;clear O)
  | go_in)
 refine yv (v:=.tuple #[.slice sa l.length cap,.int .i64 0]) (by simp[results,Tryz.results199,go_sem]) rfl ⟨sa,cap,rfl,I.trans (Z.out.mono I.size),a5.out,T,a7⟩
theorem zvk{w w1:World}{u:Bool}{n t m p:Int}{k:Value}{h:Int}{c:Bool}(D:Below (w.heap.size+1+1) ((w.alloc (.cells #[.bool u,.int .i64 n,.int .i64 t,.int .i64 m,.int .i64 p,k,.int .i64 h,.bool c] 57)).alloc (.cells #[.bool false,.int .i64 0,.int .i64 0,.int .i64 0,.int .i64 0,.slice none 0 0,.int .i64 0,.bool false] 57)) w1) :
  (w1.cell? ⟨w.heap.size,0,none⟩=some (.bool u)/\w1.cell? ⟨w.heap.size,1,none⟩=some (.int .i64 n)/\w1.cell? ⟨w.heap.size,2,none⟩=some (.int .i64 t)/\w1.cell? ⟨w.heap.size,3,none⟩=some (.int .i64 m)/\w1.cell? ⟨w.heap.size,4,none⟩=some (.int .i64 p)/\w1.cell? ⟨w.heap.size,5,none⟩=some k/\w1.cell? ⟨w.heap.size,6,none⟩=some (.int .i64 h)/\w1.cell? ⟨w.heap.size,7,none⟩=some (.bool c)) /\
  (w1.cell? ⟨w.heap.size+1,0,none⟩=some (.bool false)/\w1.cell? ⟨w.heap.size+1,1,none⟩=some (.int .i64 0)/\w1.cell? ⟨w.heap.size+1,2,none⟩=some (.int .i64 0)/\w1.cell? ⟨w.heap.size+1,3,none⟩=some (.int .i64 0)/\w1.cell? ⟨w.heap.size+1,4,none⟩=some (.int .i64 0)/\w1.cell? ⟨w.heap.size+1,5,none⟩=some (.slice none 0 0)/\w1.cell? ⟨w.heap.size+1,6,none⟩=some (.int .i64 0)/\w1.cell? ⟨w.heap.size+1,7,none⟩=some (.bool false)) /\
  (∀ o,w1.frozen? ⟨w.heap.size,o,none⟩=false)/\(∀ o,w1.frozen? ⟨w.heap.size+1,o,none⟩=false):=by
 refine⟨⟨?_,?_,?_,?_,?_,?_,?_,?_⟩,⟨?_,?_,?_,?_,?_,?_,?_,?_⟩,fun o=>?_,fun o=>?_⟩
 ·exact(D.cell (by simp;omega)).trans (by go_simp)
 ·exact(D.cell (by simp;omega)).trans (by go_simp)
 ·exact(D.cell (by simp;omega)).trans (by go_simp)
 ·exact(D.cell (by simp;omega)).trans (by go_simp)
 ·exact(D.cell (by simp;omega)).trans (by go_simp)
 ·exact(D.cell (by simp;omega)).trans (by go_simp)
 ·exact(D.cell (by simp;omega)).trans (by go_simp)
 ·exact(D.cell (by simp;omega)).trans (by go_simp)
 ·exact(D.cell (by simp)).trans (by go_simp)
 ·exact(D.cell (by simp)).trans (by go_simp)
 ·exact(D.cell (by simp)).trans (by go_simp)
 ·exact(D.cell (by simp)).trans (by go_simp)
 ·exact(D.cell (by simp)).trans (by go_simp)
 ·exact(D.cell (by simp)).trans (by go_simp)
 ·exact(D.cell (by simp)).trans (by go_simp)
 ·exact(D.cell (by simp)).trans (by go_simp)
 ·exact(D.frozen (by simp;omega)).trans (by go_simp)
 ·exact(D.frozen (by simp)).trans (by go_simp)
theorem zhZ(x:Nd)(ka:Option Addr)(kc:Nat)(w:World)(O:x.ks.length<=1000000)(I:zal w ka x.ks) :
  yL 44 #[.agg #[.bool x.u,.int .i64 x.n,.int .i64 x.t,.int .i64 x.m,.int .i64 x.p,.slice ka x.ks.length kc,.int .i64 x.h,.bool x.c]] w fun e w' => ∃ g,e=.returned (.agg #[.bool x.u,.int .i64 x.n,.int .i64 x.t,.int .i64 x.m,.int .i64 x.p,.slice (some ⟨g,0,none⟩) x.ks.length x.ks.length,.int .i64 x.h,.bool x.c])/\Below w.heap.size w w' /\ w.heap.size<=g/\w'.rowIs g 3 x.ks.length (fun j=>.int .i64 (x.ks.getD j 0)):=by
 obtain⟨u,n,t,m,p,ks,h,c⟩:=x;dsimp only at *;have D:Hid (∀ U Z:Obj,_):=fun U Z=>zfc ka kc ks ((w.alloc U).alloc Z) O (I.below (zam _ _ _));clear I;obtain⟨l,hl⟩:∃ l,ks.length=l:=⟨_,rfl⟩;rw[hl] at D;rw[hl];clear hl O
 go_enter Tryz.func44,Tryz.ntmps44
 go_wp2_with fail
 refine ye (D.out _ _) ?_;rintro e w3 ⟨rfl,F,E⟩;simp only[yr] at F E;obtain⟨⟨l0,l1,l2,l3,l4,l5,l6,l7⟩,⟨z0,z1,z2,z3,z4,z5,z6,z7⟩,f1,f2⟩:=zvk F;have T:w.heap.size+1+1<w3.heap.size:=World.rowIs.lt E;have M:Hid (w3.rowIs (w.heap.size+1+1) 3 l (fun j=>.int .i64 (ks.getD j 0))):=E;have J:Hid (Below w.heap.size w w3):=(zam _ _ _).trans (F.mono (by omega));clear F E D;simp only[yr]
 go_wp2
 refine yv (v:=.agg #[.bool u,.int .i64 n,.int .i64 t,.int .i64 m,.int .i64 p,.slice (some ⟨w.heap.size+1+1,0,none⟩) l l,.int .i64 h,.bool c]) (by simp[results,Tryz.results44,go_sem,z0,z1,z2,z3,z4,z5,z6,z7]) rfl ⟨w.heap.size+1+1,rfl,?_,by omega,?_⟩
 ·exact((((((((J.out.setCell (by simp) _).setCell (by simp) _).setCell (by simp) _).setCell (by simp) _).setCell (by simp) _).setCell (by simp) _).setCell (by simp) _).setCell (by simp) _).setCell (by simp) _
 ·exact((((((((M.out.setOther (by simp;omega) _).setOther (by simp) _).setOther (by simp) _).setOther (by simp) _).setOther (by simp) _).setOther (by simp) _).setOther (by simp) _).setOther (by simp) _).setOther (by simp) _
def NdR(w:World)(F:Nat->Value)(o:Nat)(x:Nd)(kb kc:Nat):Prop :=
 F o=.bool x.u/\F (o+1)=.int .i64 x.n/\F (o+2)=.int .i64 x.t/\F (o+3)=.int .i64 x.m/\F (o+4)=.int .i64 x.p/\F (o+5)=.slice (some ⟨kb,0,none⟩) x.ks.length kc/\F (o+6)=.int .i64 x.h/\F (o+7)=.bool x.c /\
 x.ks.length<=kc/\kc<=1000/\∃ G,w.rowIs kb 3 kc G/\∀ j,j<x.ks.length->G j=.int .i64 (x.ks.getD j 0)
def Own(w:World)(B g:Nat)(S:List Nd)(kb kc:Nat->Nat)(k:Nat):Prop :=
 B<=g/\∃ F,w.rowIs g 57 (S.length*8) F/\(∀ i,i<k->NdR w F (i*8) (nd S i) (kb i) (kc i))/\(∀ i,i<k->g<kb i)/\(∀ i,i<k->∀ j,j<k->kb i=kb j->i=j)
theorem NdR.below{w w' : World}{F:Nat->Value}{o:Nat}{x:Nd}{kb kc B:Nat}(h:NdR w F o x kb kc)(hb:Below B w w')(hB:kb<B):NdR w' F o x kb kc:=by
 obtain⟨E,I,J,M,O,T,U,Z,e8,D,G,hG,e9⟩:=h;exact⟨E,I,J,M,O,T,U,Z,e8,D,G,hG.of_block (hb.block kb hB),e9⟩
theorem NdR.row{w:World}{F:Nat->Value}{o:Nat}{x:Nd}{kb kc:Nat}(h:NdR w F o x kb kc):kb<w.heap.size:=by
 obtain⟨_,_,_,_,_,_,_,_,_,_,G,D,_⟩:=h;exact D.lt
theorem Own.nds{w:World}{B g:Nat}{S:List Nd}{kb kc:Nat->Nat}(h:Own w B g S kb kc S.length):zah w (some ⟨g,0,none⟩) S:=fun i hi=>by
 obtain⟨_,F,D,hN,_,_⟩:=h;obtain⟨E,I,J,M,O,T,U,Z,e8,a5,G,hG,e9⟩:=hN i hi;refine⟨g,0,rfl,?_⟩;rw[yz];refine⟨?_,?_,?_,?_,?_,⟨some ⟨kb i,0,none⟩,kc i,?_,fun j hj=>⟨kb i,0,rfl,?_⟩⟩,?_,?_⟩
 ·rw[D.cell (by omega),E]
 ·rw[D.cell (by omega),I]
 ·rw[D.cell (by omega),J]
 ·rw[D.cell (by omega),M]
 ·rw[D.cell (by omega),O]
 ·rw[D.cell (by omega),T]
 ·rw[yz,hG.cell (by omega),e9 j hj]
 ·rw[D.cell (by omega),U]
 ·rw[D.cell (by omega),Z]
def zrI(F:Nat->Value)(o:Nat)(D v1 v2 E I J M O:Value):Nat->Value:=fun j =>
 if j=o+7 then O else if j=o+6 then M else if j=o+5 then J else if j=o+4 then I else if j=o+3 then E else if j=o+2 then v2 else if j=o+1 then v1 else if j=o then D else F j
theorem zpH{w:World}{g t n:Nat}{F:Nat->Value}(h:w.rowIs g t n F)(o:Nat)(D v1 v2 E I J M O:Value) :
  ((((((((w.setCell ⟨g,o,none⟩ D).setCell ⟨g,o+1,none⟩ v1).setCell ⟨g,o+2,none⟩ v2).setCell ⟨g,o+3,none⟩ E).setCell ⟨g,o+4,none⟩ I).setCell ⟨g,o+5,none⟩ J).setCell ⟨g,o+6,none⟩ M).setCell ⟨g,o+7,none⟩ O).rowIs g t n (zrI F o D v1 v2 E I J M O) :=
 (((((((h.set _ _).set _ _).set _ _).set _ _).set _ _).set _ _).set _ _).set _ _
theorem zbU{F:Nat->Value}{o j:Nat}{D v1 v2 E I J M O:Value}(h:j<o\/o+8<=j):zrI F o D v1 v2 E I J M O j=F j:=by
 unfold zrI;rw[ya (by omega),ya (by omega),ya (by omega),ya (by omega),ya (by omega),ya (by omega),ya (by omega),ya (by omega)]
def zjP:Array Value:=#[.bool false,.int .i64 0,.int .i64 0,.int .i64 0,.int .i64 0,.slice none 0 0,.int .i64 0,.bool false]
theorem zzF:(Tryz.prog.info? 57).map (fun i=>(i.zero,i.size,i.bytes))=some (some (.agg #[.bool false,.int .i64 0,.int .i64 0,.int .i64 0,.int .i64 0,.slice none 0 0,.int .i64 0,.bool false]),8,80):=by kernel_rfl
theorem ztv(n:Nat)(hn:n<=24)(w:World):(Instr.makeSlice 41 (.int .i64 (n:Int)) (.int .i64 (n:Int))).run Tryz.prog w=.ok (.slice (some ⟨w.heap.size,0,none⟩) n n) (w.alloc (.cells (madeCells zjP (n*8)) 57)):=by
 obtain⟨i,hi,D,E,F⟩:=info_parts zzF;have h:=run_make (P:=Tryz.prog) w 41 57 i _ Tryz.underlying41 hi D .i64 .i64 n n (by omega) (by omega) (by rw[F];omega) (by omega);rw[E] at h;simp only[yi] at h;exact h
theorem zlS(w:World)(n:Nat):(w.alloc (.cells (madeCells zjP (n*8)) 57)).rowIs w.heap.size 57 (n*8) (fun j=>zjP[j % 8]!):=by
 have h:=World.rowIs_alloc w (madeCells zjP (n*8)) 57 (fun j=>zjP[j % 8]!) (fun i hi=>by rw[size_madeCells] at hi;simp[madeCells,hi,zjP]);rw[size_madeCells] at h;exact h
structure zar (X:Nat->Prop) (w w' : World):Prop where
 size:w.heap.size<=w'.heap.size
 block:∀ b,b<w.heap.size->¬ X b->w'.heap[b]?=w.heap[b]?
theorem zar.refl(X:Nat->Prop)(w:World):zar X w w:=⟨yj _,fun _ _ _=>rfl⟩
theorem zar.of_below{X:Nat->Prop}{w w' : World}(h:Below w.heap.size w w'):zar X w w' :=⟨h.size,fun b D _=>h.block b D⟩
theorem zar.trans{X:Nat->Prop}{w w' D:World}(h:zar X w w')(k:zar X w' D):zar X w D:=⟨yG h.size k.size,fun b E F=>(k.block b (yx E h.size) F).trans (h.block b E F)⟩
theorem zar.set{X:Nat->Prop}(w:World){b o:Nat}(v:Value)(h:X b):zar X w (w.setCell ⟨b,o,none⟩ v):=⟨by simp,fun k _ D=>ys _ _ _ _ (fun e=>D (by rw[e];exact h))⟩
theorem zar.grown{X:Nat->Prop}{w w' : World}{r:Option Nat}(h:w.grownBy w' r)(E:∀ b,r=some b->X b):zar X w w' :=⟨h.size,fun k D hn=>h.block k D (fun e=>hn (E k e.symm))⟩
theorem zpy{X Y:Nat->Prop}{w w1 w' : World}(hs:w.heap.size<=w1.heap.size)(F:∀ b,b<w.heap.size->¬ X b->w1.heap[b]?=w.heap[b]?)(E:∀ b,b<w.heap.size->Y b->X b)(h:zar Y w1 w'):zar X w w' :=⟨yG hs h.size,fun b h1 D=>(h.block b (yx h1 hs) (fun I=>D (E b h1 I))).trans (F b h1 D)⟩
theorem zar.mono{X Y:Nat->Prop}{w w' : World}(h:zar X w w')(D:∀ b,X b->Y b):zar Y w w' :=⟨h.size,fun b E I=>h.block b E (fun F=>I (D b F))⟩
def St(X:Nat->Prop)(P:World->Prop)(w:World):Prop:=∀ w', zar X w w' -> P w'
theorem St.off{X:Nat->Prop}{P:World->Prop}{w w' : World}(h:St X P w)(F:zar X w w'):St X P w' := fun D E=>h D (F.trans E)
theorem St.at{X:Nat->Prop}{P:World->Prop}{w:World}(h:St X P w):P w:=h w (zar.refl X w)
theorem St.less{X Y:Nat->Prop}{P:World->Prop}{w:World}(h:St Y P w)(D:∀ b,X b->Y b):St X P w:=fun w' E=>h w' (E.mono D)
theorem St.grow{X Y:Nat->Prop}{P:World->Prop}{w w1:World}(h:St X P w)(D:zar X w w1)(F:∀ b,b<w.heap.size->Y b->X b):St Y P w1:=fun w' E=>h w' (zpy D.size D.block F E)
theorem St.imp{X:Nat->Prop}{P Q:World->Prop}{w:World}(h:St X P w)(D:∀ V,P V->Q V):St X Q w:=fun w' E=>D w' (h w' E)
theorem zoW(W:World)(D:Array Value)(t o:Nat):(W.alloc (.cells D t)).frozen? ⟨W.heap.size,o,none⟩=false:=by
 have e:=yK W (.cells D t);simp only[World.frozen?,e];simp
theorem zrY(W:World)(D:Array Value)(t o:Nat)(E:Obj):((W.alloc (.cells D t)).alloc E).frozen? ⟨W.heap.size,o,none⟩=false:=((zaa _ _).frozen (by simp)).trans (zoW W D t o)
theorem ziL(W:World)(E:Array Value)(t o:Nat)(D:Obj):((W.alloc D).alloc (.cells E t)).frozen? ⟨W.heap.size+1,o,none⟩=false:=by
 have:=zoW (W.alloc D) E t o
 rwa [yr] at this
def zaA{E:Type}(cv:E->Nat->Value)(t s n:Nat)(R:Nat->E->Nat->Nat->World->Prop)(g k:Nat)(w:World):Prop :=
 ∃ (v:Nat->E) (lo hi:Nat->Nat) (F:Nat->Value),w.rowIs g t (n*s) F/\∀ i,i<k->(∀ j,j<s->F (i*s+j)=cv (v i) j)/\g<lo i/\lo i<=hi i/\hi i<=w.heap.size/\(∀ D,D<i->hi D<=lo i)/\St (fun b=>b<lo i\/hi i<=b) (R i (v i) (lo i) (hi i)) w
theorem zaA.zero{E:Type}{cv:E->Nat->Value}(w:World)(D:Array Value)(t s n:Nat)(R:Nat->E->Nat->Nat->World->Prop)(F:E):zaA cv t s n R w.heap.size 0 (w.alloc (.cells (madeCells D (n*s)) t)):=by
 have h:=World.rowIs_alloc w (madeCells D (n*s)) t (fun j=>(madeCells D (n*s))[j]!) (fun i hi=>by simp[hi]);rw[size_madeCells] at h;exact⟨fun _=>F,fun _=>0,fun _=>0,_,h,fun i hi=>absurd hi (yw _)⟩
theorem zaA.facts{E:Type}{cv:E->Nat->Value}{t s n g k:Nat}{R:Nat->E->Nat->Nat->World->Prop}{w:World}(h:zaA cv t s n R g k w):g<w.heap.size/\(∀ o,w.frozen? ⟨g,o,none⟩=false)/\∃ F:Nat->Value,∀ j,j<n*s->w.cell? ⟨g,j,none⟩=some (F j):=by
 obtain⟨_,_,_,F,D,_⟩:=h;exact⟨D.lt,D.frozen,F,fun j I=>D.cell I⟩
theorem zaA.step{E:Type}{cv:E->Nat->Value}{t s n g k lo hi:Nat}{R:Nat->E->Nat->Nat->World->Prop}{wr w3 w' : World}{x:E}(h:zaA cv t s n R g k wr)(hk:k<n)(M:Below wr.heap.size wr w3)(a6:wr.heap.size<=lo)(T:lo<=hi)(h3:St (fun b=>b<lo\/hi<=b) (R k x lo hi) w3)(a7:hi=w3.heap.size)(U:zar (fun b=>b=g) w3 w')
  (hF:∀ F,w3.rowIs g t (n*s) F->∃ I,w'.rowIs g t (n*s) I/\(∀ j,j<s->I (k*s+j)=cv x j)/\∀ i,i<k->∀ j,j<s->I (i*s+j)=F (i*s+j)):zaA cv t s n R g (k+1) w' := by
 obtain⟨v,l,u,F,hr,J⟩:=h;have hg:=hr.lt;obtain⟨I,Z,f1,f2⟩:=hF F (hr.of_block (M.block g hg));have s3:=M.size;have s4:=U.size;refine⟨fun i=>if i=k then x else v i,fun i=>if i=k then lo else l i,fun i=>if i=k then hi else u i,I,Z,fun i a5=>?_⟩;dsimp only;by_cases e:i=k
 ·subst e;rw[yb rfl,yb rfl,yb rfl];refine⟨f1,by omega,T,by omega,fun i' D=>?_,h3.off (U.mono (fun b O=>Or.inl (by rw[O];omega)))⟩;rw[ya (by omega)];have:=(J i' D).2.2.2.1;omega
 ·rw[ya e,ya e,ya e];obtain⟨g1,g2,g3,g4,g5,g6⟩:=J i (by omega);refine⟨fun j hj=>(f2 i (by omega) j hj).trans (g1 j hj),g2,g3,by omega,fun i' D=>?_,(g6.off (zar.of_below M)).off (U.mono (fun b O=>Or.inl (by rw[O];exact g2)))⟩;rw[ya (by omega)];exact g5 i' D
theorem zaA.off{E:Type}{cv:E->Nat->Value}{t s n g k:Nat}{R:Nat->E->Nat->Nat->World->Prop}{w w' : World}(h:zaA cv t s n R g k w)(I:zar (fun b=>b<g\/w.heap.size<=b) w w'):zaA cv t s n R g k w' := by
 obtain⟨v,l,u,F,J,D⟩:=h;have hg:=J.lt;refine⟨v,l,u,F,J.of_block (I.block g J.lt (by show ¬ (g<g\/w.heap.size<=g);omega)),fun i hi=>?_⟩;obtain⟨g1,g2,g3,M,O,T⟩:=D i hi;exact⟨g1,g2,g3,yG M I.size,O,T.off (I.mono (fun b U=>by have Z:b<g\/w.heap.size<=b:=U;show b<l i\/u i<=b;omega))⟩
theorem zaA.st{E:Type}{cv:E->Nat->Value}{t s n g k B H:Nat}{R:Nat->E->Nat->Nat->World->Prop}{w:World}(h:zaA cv t s n R g k w)(J:B<=g)(M:w.heap.size<=H):St (fun b=>b<B\/H<=b) (zaA cv t s n R g k) w:=fun w' F=>h.off (F.mono (fun b D=>by have I:b<B\/H<=b:=D;show b<g\/w.heap.size<=b;omega))
theorem zaA.set{E:Type}{cv:E->Nat->Value}{t s n g k b o:Nat}{R:Nat->E->Nat->Nat->World->Prop}{w:World}(h:zaA cv t s n R g k w)(D:b<g)(u:Value):zaA cv t s n R g k (w.setCell ⟨b,o,none⟩ u):=h.off (zar.set w u (Or.inl D))
structure ENd where
 u:Bool
 n:Int
 t:Int
 m:Int
 p:Int
 ka:Option Addr
 kl:Nat
 kc:Nat
 h:Int
 c:Bool
def zyZ(x:ENd):Nat->Value
 | 0=>.bool x.u
 | 1=>.int .i64 x.n
 | 2=>.int .i64 x.t
 | 3=>.int .i64 x.m
 | 4=>.int .i64 x.p
 | 5=>.slice x.ka x.kl x.kc
 | 6=>.int .i64 x.h
 | _=>.bool x.c
theorem zzL(n:Nat)(hn:n<=100000)(w:World):(Instr.makeSlice 41 (.int .i64 (n:Int)) (.int .i64 (n:Int))).run Tryz.prog w=.ok (.slice (some ⟨w.heap.size,0,none⟩) n n) (w.alloc (.cells (madeCells #[.bool false,.int .i64 0,.int .i64 0,.int .i64 0,.int .i64 0,.slice none 0 0,.int .i64 0,.bool false] (n*8)) 57)):=by
 have I:(Tryz.prog.info? 57).map (fun i=>(i.zero,i.size,i.bytes))=some (some (.agg #[.bool false,.int .i64 0,.int .i64 0,.int .i64 0,.int .i64 0,.slice none 0 0,.int .i64 0,.bool false]),8,80):=by kernel_rfl
 obtain⟨i,hi,D,E,F⟩:=info_parts I;have h:=run_make (P:=Tryz.prog) w 41 57 i _ Tryz.underlying41 hi D .i64 .i64 n n (by omega) (by omega) (by rw[F];omega) (by omega);rw[E] at h;simp only[yi] at h;exact h
theorem zaA.putNd{w:World}{g n k:Nat}{F:Nat->Value}(h:w.rowIs g 57 (n*8) F)(x:ENd):∃ D,((((((((w.setCell ⟨g,k*8,none⟩ (.bool x.u)).setCell ⟨g,k*8+1,none⟩ (.int .i64 x.n)).setCell ⟨g,k*8+2,none⟩ (.int .i64 x.t)).setCell ⟨g,k*8+3,none⟩ (.int .i64 x.m)).setCell ⟨g,k*8+4,none⟩ (.int .i64 x.p)).setCell ⟨g,k*8+5,none⟩ (.slice x.ka x.kl x.kc)).setCell ⟨g,k*8+6,none⟩ (.int .i64 x.h)).setCell ⟨g,k*8+7,none⟩ (.bool x.c)).rowIs g 57 (n*8) D/\(∀ j,j<8->D (k*8+j)=zyZ x j)/\∀ i,i<k->∀ j,j<8->D (i*8+j)=F (i*8+j):=by
 refine⟨_,(((((((h.set _ _).set _ _).set _ _).set _ _).set _ _).set _ _).set _ _).set _ _,fun j E=>?_,fun i hi j E=>?_⟩
 ·rcases(by omega:j=0\/j=1\/j=2\/j=3\/j=4\/j=5\/j=6\/j=7) with rfl|rfl|rfl|rfl|rfl|rfl|rfl|rfl
  ·rw[ya (by omega),ya (by omega),ya (by omega),ya (by omega),ya (by omega),ya (by omega),ya (by omega),yb (by omega)];rfl
  ·rw[ya (by omega),ya (by omega),ya (by omega),ya (by omega),ya (by omega),ya (by omega),yb rfl];rfl
  ·rw[ya (by omega),ya (by omega),ya (by omega),ya (by omega),ya (by omega),yb rfl];rfl
  ·rw[ya (by omega),ya (by omega),ya (by omega),ya (by omega),yb rfl];rfl
  ·rw[ya (by omega),ya (by omega),ya (by omega),yb rfl];rfl
  ·rw[ya (by omega),ya (by omega),yb rfl];rfl
  ·rw[ya (by omega),yb rfl];rfl
  ·rw[yb rfl];rfl
 ·rw[ya (by omega),ya (by omega),ya (by omega),ya (by omega),ya (by omega),ya (by omega),ya (by omega),ya (by omega)]
theorem zzo(K:Nat)(eg:∀ args w,(callFunc K args).run Tryz.prog w=.ok (.enter K args) w)(a:Option Addr)(c n:Nat)(S:Nat->ENd)(R:Nat->ENd->Nat->Nat->World->Prop)(w:World)(hn:n<=100000)
  (hs:∀ i,i<n->∃ b o,a=some ⟨b,o,none⟩/\w.cell? ⟨b,o+i*8,none⟩=some (.bool (S i).u)/\w.cell? ⟨b,o+i*8+1,none⟩=some (.int .i64 (S i).n)/\w.cell? ⟨b,o+i*8+2,none⟩=some (.int .i64 (S i).t)/\w.cell? ⟨b,o+i*8+3,none⟩=some (.int .i64 (S i).m)/\w.cell? ⟨b,o+i*8+4,none⟩=some (.int .i64 (S i).p)/\w.cell? ⟨b,o+i*8+5,none⟩=some (.slice (S i).ka (S i).kl (S i).kc)/\w.cell? ⟨b,o+i*8+6,none⟩=some (.int .i64 (S i).h)/\w.cell? ⟨b,o+i*8+7,none⟩=some (.bool (S i).c))
  (hK:∀ i,i<n->∀ W,Below w.heap.size w W->yL K #[.agg #[.bool (S i).u,.int .i64 (S i).n,.int .i64 (S i).t,.int .i64 (S i).m,.int .i64 (S i).p,.slice (S i).ka (S i).kl (S i).kc,.int .i64 (S i).h,.bool (S i).c]] W fun e Z=>∃ y:ENd,e=.returned (.agg #[.bool y.u,.int .i64 y.n,.int .i64 y.t,.int .i64 y.m,.int .i64 y.p,.slice y.ka y.kl y.kc,.int .i64 y.h,.bool y.c])/\Below W.heap.size W Z/\St (fun b=>b<W.heap.size\/Z.heap.size<=b) (R i y W.heap.size Z.heap.size) Z) :
  yL 133 #[.slice a n c,.func (.func K) #[] #[]] w fun e w' => e=.returned (.slice (some ⟨w.heap.size,0,none⟩) n n)/\Below w.heap.size w w' /\ zaA zyZ 57 8 n R w.heap.size n w' := by
 have HS:Hid _:=hs;have HK:Hid _:=hK;clear hs hK;have b3:=zzL n hn
 go_enter Tryz.func133,Tryz.ntmps133
 go_wp2
 go_loopg [13] n (fun m s13 wr=>∃ k:Nat,k<=n/\n-k<=m/\s13=.int .i64 k/\Below w.heap.size w wr/\Hid (zaA zyZ 57 8 n R w.heap.size k wr))
 case atStart=>exact⟨0,by omega,by omega,rfl,zaa _ _,zaA.zero w _ 57 8 n R (S 0)⟩
 case round =>
  obtain⟨k,hk,hg,rfl,I,O⟩:=hrel;by_cases U:k<n
  ·have b0:(k:Int)<(n:Int):=(by omega);obtain⟨b,o,rfl,c0,c1,c2,c3,c4,c5,c6,c7⟩:=HS.out k U;replace c0:=zab c0 I;replace c1:=zab c1 I;replace c2:=zab c2 I;replace c3:=zab c3 I;replace c4:=zab c4 I;replace c5:=zab c5 I;replace c6:=zab c6 I;replace c7:=zab c7 I;have b1:b<wr.heap.size:=yd _ _ c0;obtain⟨E,a5,F,M⟩:=O.out.facts;have D:Hid (∀ W,Below wr.heap.size wr W->Calls _ _ _ _ _):=fun W hW=>HK.out k U W (I.trans (hW.mono I.size));generalize S k=x at *;obtain⟨xu,xn,xt,xm,xp,b4,b6,b5,xh,xc⟩:=x;dsimp only at c0 c1 c2 c3 c4 c5 c6 c7 D
   go_wp2_with (go_at_fn K;refine(D.out _ ?nd).mono ?_;(case nd=>exact zaa _ _);rintro e w3 ⟨⟨yu,yn,yt,ym,yp,a6,a8,a7,yh,yc⟩,rfl,T,h3⟩;have HR:Hid _:=h3;clear h3;have J:Hid (Below wr.heap.size wr w3):=(zaa _ _).trans (T.mono (by simp));have s3:Hid (wr.heap.size<=w3.heap.size):=J.out.size;have SZ:Hid _:=T.size;clear T;have q0:=(J.out.cell (by exact E)).trans (M (k*8) (by omega));have q1:=(J.out.cell (by exact E)).trans (M (k*8+1) (by omega));have q2:=(J.out.cell (by exact E)).trans (M (k*8+2) (by omega));have q3:=(J.out.cell (by exact E)).trans (M (k*8+3) (by omega));have q4:=(J.out.cell (by exact E)).trans (M (k*8+4) (by omega));have q5:=(J.out.cell (by exact E)).trans (M (k*8+5) (by omega));have q6:=(J.out.cell (by exact E)).trans (M (k*8+6) (by omega));have q7:=(J.out.cell (by exact E)).trans (M (k*8+7) (by omega));have a9:=fun o=>(J.out.frozen (by exact E)).trans (a5 o);have b2:w.heap.size<w3.heap.size:=yx E s3.out)
   go_roundg (n-(k+1))
   case measure=>omega
   case rel =>
    refine⟨k+1,by omega,by omega,by go_num,(((((((((I.trans (J.out.mono I.size)).setCell (by simp) _).setCell (by simp) _).setCell (by simp) _).setCell (by simp) _).setCell (by simp) _).setCell (by simp) _).setCell (by simp) _).setCell (by simp) _),zaA.step O.out U J.out (by simp) ?_ HR.out rfl (((((((((zar.refl (fun b=>b=w.heap.size) _).trans (zar.set (X:=fun b=>b=w.heap.size) _ _ rfl)).trans (zar.set (X:=fun b=>b=w.heap.size) _ _ rfl)).trans (zar.set (X:=fun b=>b=w.heap.size) _ _ rfl)).trans (zar.set (X:=fun b=>b=w.heap.size) _ _ rfl)).trans (zar.set (X:=fun b=>b=w.heap.size) _ _ rfl)).trans (zar.set (X:=fun b=>b=w.heap.size) _ _ rfl)).trans (zar.set (X:=fun b=>b=w.heap.size) _ _ rfl)).trans (zar.set (X:=fun b=>b=w.heap.size) _ _ rfl)) (fun F M=>zaA.putNd M ⟨yu,yn,yt,ym,yp,a6,a8,a7,yh,yc⟩)⟩;have:=SZ.out;simpa using this
  ·have:k=n:=(by omega);subst this
   go_wp2
   go_ret;exact⟨rfl,I,O.out⟩
def idx(ks:List Int)(v:Int):Int:=if v ∈ ks then (ks.idxOf v:Int) else -1
theorem zvN{ks:List Int}{v:Int}(h:∀ i,i<ks.length->ks.getD i 0≠v):idx ks v = -1/\v ∉ ks:=by
 have hn:v ∉ ks:=fun D=>by
  obtain⟨i,hi,e⟩:=List.getElem_of_mem D;exact h i hi (by rw[zae ks 0 hi];exact e)
 exact⟨ya hn,hn⟩
theorem ziX:∀ (ks:List Int) (v:Int) (k:Nat),k<ks.length->ks.getD k 0=v->(∀ i,i<k->ks.getD i 0≠v)->ks.idxOf v=k
 | [],_,_,h,_,_=>by simp at h
 | x :: r,v,0,_,h,_=>by
  have:x=v:=by simpa using h
  rw[this];simp
 | x :: r,v,k+1,F,h,E=>by
  have I:x≠v:=by simpa using E 0 (by omega)
  have:=ziX r v k (by simpa using F) (by simpa using h) (fun i hi=>by simpa using E (i+1) (by omega));have D:(x == v)=false:=beq_eq_false_iff_ne.2 I;rw[List.idxOf_cons,this,D];rfl
theorem zvO{ks:List Int}{v:Int}{k:Nat}(D:k<ks.length)(h:ks.getD k 0=v)(F:∀ i,i<k->ks.getD i 0≠v):idx ks v=k/\v ∈ ks:=by
 have E:v ∈ ks:=by rw[<- h,zae ks 0 D];exact List.getElem_mem D
 exact⟨by unfold idx;rw[yb E,ziX ks v k D h F],E⟩
theorem zte(a:Option Addr)(c:Nat)(ks:List Int)(v:Int)(w:World)(I:ks.length<=9223372036854775807)(D:zal w a ks) :
  yL 217 #[.slice a ks.length c,.int .i64 v] w fun e w' => e=.returned (.int .i64 (idx ks v))/\w' = w:=by
 have N:Hid ((∀ i,i<ks.length->ks.getD i 0≠v)->idx ks v = -1):=fun h=>(zvN h).1;have Sm:Hid (∀ k,k<ks.length->ks.getD k 0=v->(∀ i,i<k->ks.getD i 0≠v)->idx ks v=k):=fun k h1 U h3=>(zvO h1 U h3).1;generalize idx ks v=r at *;generalize hn:ks.length=n at *;have O:Hid (ks.length=n):=hn;clear hn
 go_enter Tryz.func217,Tryz.ntmps217
 go_wp2
 go_loopg [8] n (fun g s8 wr=>∃ k:Nat,k<=n/\n-k<=g/\s8=.int .i64 k/\wr=w/\Hid (∀ i,i<k->ks.getD i 0≠v))
 case atStart=>exact⟨0,by omega,by omega,rfl,rfl,fun i hi=>by omega⟩
 case round =>
  obtain⟨k,hk,hg,rfl,rfl,A⟩:=hrel;by_cases F:k<n
  ·obtain⟨b,o,rfl,hc⟩:=D k (by rw[O.out];exact F);clear D;by_cases E:v=ks.getD k 0
   ·have Z:=Sm.out k F E.symm A.out;subst Z;rw[<- E] at hc;clear E
    go_wp2
    go_ret;exact⟨rfl,rfl⟩
   ·have M:Hid (ks.getD k 0≠v):=fun e=>E e.symm;have h1:(v == ks.getD k 0)=false:=beq_eq_false_iff_ne.2 E;generalize J:ks.getD k 0=y at *;have T:Hid _:=J;clear J
    go_wp2
    go_roundg (n-(k+1))
    case measure=>omega
    case rel =>
     refine⟨k+1,by omega,by omega,by go_num,rfl,(show Hid _ from fun i hi=>?_)⟩;by_cases e:i=k
     ·rw[e,T.out];exact M.out
     ·exact A.out i (by omega)
  ·have:k=n:=(by omega);subst this;have Z:=N.out A.out;subst Z;clear D
   go_wp2
   go_ret;exact⟨rfl,rfl⟩
theorem zdD(w:World)(D E:Obj):Below w.heap.size w ((w.alloc D).alloc E):=((yk _ _).alloc (yj _) _).alloc (by simp) _
end Go.Proofs.YtcbcpomacdngmaaGreat
