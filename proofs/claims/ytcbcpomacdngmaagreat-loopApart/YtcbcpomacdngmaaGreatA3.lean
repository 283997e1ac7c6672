/-
  x
-/
import Derived.Test.YtcbcpomacdngmaaGreatA2
import Derived.Laws.EntriesVeiled
namespace Go.Proofs.YtcbcpomacdngmaaGreat
set_option maxRecDepth 100000
set_option maxHeartbeats 4000000
set_option linter.unusedVariables false
open Go.RowKit Tryz
variable{w w1:Wd}{X Y:Nat->Prop}{n g k t o s B kb kc b:Nat}{w':World}{F:Nat->Value}{P:World->Prop}{p v:Int}{x:Nd}{ks:List Int}
theorem Bo{a:OA}{c:Nat}{u:Int}{o3:Obj}(hb:Below (w.heap.size+1+1+1) (((w.alloc (.cells #[.slice a n c] 43)).alloc (.cells #[.int .i64 p,.int .i64 u] 61)).alloc o3) w1) :
  w1.cell? ⟨w.heap.size,0,none⟩=some (.slice a n c)/\w1.cell? ⟨w.heap.size+1,0,none⟩=some (.int .i64 p)/\w1.cell? ⟨w.heap.size+1,1,none⟩=some (.int .i64 u) :=
 ⟨(hb.cell oab).trans oaf,(hb.cell oac).trans oaf,(hb.cell oac).trans oaf⟩
theorem wX(W:Wd)(b:Nat)(p u:Int)(h1:W.cell? ⟨b,0,none⟩=some (.int .i64 p))(D:W.cell? ⟨b,1,none⟩=some (.int .i64 u)):aZ W (some ⟨b,0,none⟩) [(p,u)]:=fun i hi=>by
 have:i=0:=by simpa using hi
 subst this;exact⟨b,0,rfl,by simpa using h1,by simpa using D⟩
theorem Bp{W w2:Wd}{v:Value}{l:List Int}(D:w2.ownsRow W.heap.size 3 1 v l.length (l.map (Value.int .i64))):∃ sa cap,v=.slice sa l.length cap/\aG w2 sa l/\l.length<=cap/\cap<=9223372036854775807:=by
 obtain⟨hl,h⟩:=D;rcases h with ⟨rfl,h0⟩ |⟨g,cap,E,rfl,_,hg,h1,F,J,I⟩
 ·exact⟨none,0,by rw[h0],fun i hi=>oaa,oaa,oaa⟩
 ·refine⟨some ⟨g,0,none⟩,cap,rfl,fun i hi=>⟨g,0,rfl,?_⟩,h1,by unfold maxLen at F;omega⟩
  have h5:(E.toList.take (l.length*1))[i]?=some (.int .i64 (l.getD i 0)):=by
   rw[I,List.getElem?_map,List.getElem?_eq_getElem hi,aJ l 0 hi];rfl
  rw[List.getElem?_take,ye oaa] at h5;simp only[yD,World.cell?,hg];simpa using h5
theorem PZ(ks:Nat->List Int)(n K:Nat)(D:Array Value)(k f:Nat)(w:Wd)
  (eg:∀ args w,(callFunc K args).run prog w=.ok (.enter K args) w)
  (F:∀ p,p<n->∃ ka kc,(ks p).length<=9223372036854775807/\(∀ w1,Bl w w1->aG w1 ka (ks p))/\∀ w1,Bl w w1->yO K (#[.int .i64 p] ++ D) w1 fun e w2=>e=.returned (.slice ka (ks p).length kc)/\Below w1.heap.size w1 w2)
  (U:k<n) (hD:tY ks n f k) (hlen:(fQ ks f k).length<=1000000) :
  yO 204 #[.int .i64 k,.func (.func K) #[] D] w fun e w' => ∃ sa cap,e=.returned (.slice sa (fQ ks f k).length cap)/\Below w.heap.size w w' /\ aG w' sa (fQ ks f k)/\(fQ ks f k).length<=cap/\cap<=9223372036854775807:=by
 have D2:Hid (∀ (w1:Wd),w.heap.size+3<=w1.heap.size->Bl w w1 ->
   w1.cell? ⟨w.heap.size,0,none⟩=some (.func (.func K) #[] D) ->
   w1.cell? ⟨w.heap.size+2,0,none⟩=some (.func (.func 215) #[] #[.pointer (some ⟨w.heap.size+1,0,none⟩),.pointer (some ⟨w.heap.size,0,none⟩),.pointer (some ⟨w.heap.size+2,0,none⟩)]) ->
   w1.cell? ⟨w.heap.size+1,0,none⟩=some (.slice none 0 0)->w1.frozen? ⟨w.heap.size+1,0,none⟩=false ->
   yO 215 #[.int .i64 k,.pointer (some ⟨w.heap.size+1,0,none⟩),.pointer (some ⟨w.heap.size,0,none⟩),.pointer (some ⟨w.heap.size+2,0,none⟩)] w1 fun e w2=>e=.returned (.tuple #[])/\iC w1 (w.heap.size+1) (fQ ks f k) w2):=fun w1 a6 M h1 I h3 h4=>by
  have J:∀ w2,Off (fun k=>k=w.heap.size+1) w1 w2->Bl w w2:=fun w2 I=>M.trans (I.below M.size (fun k U=>by rw[U];omega))
  have h:=Bn ks n K D w1 (w.heap.size+1) w.heap.size (w.heap.size+2) oaa oaa oaa oaa oaa eg h1 I (fun p hp=>by
   obtain⟨ka,kc,r0,r1,r2⟩:=F p hp;exact⟨ka,kc,r0,fun w2 I=>r1 w2 (J w2 I),fun w2 I=>r2 w2 (J w2 I)⟩) f k [] w1 U hD (by simpa using hlen) ⟨Off.refl _ _,_,h3,h4,World.ownsRow_nil _ _ _ _⟩
  simpa using h
 clear F hD;generalize hl:fQ ks f k=l at *;have HL:Hid _:=hl;clear hl
 go_enter func204,ntmps204
 go_wp2_with fail
 refine(D2 _ oac ((((yv _ _).alloc (yr _) _).alloc oac _).alloc oab _) oaf oaf oaf oaf).mono ?_;rintro e w2 ⟨rfl,hO,v,hc,hf,E⟩;obtain⟨sa,cap,rfl,T,O,a5⟩:=Bp E;have Z:Hid _:=T;have HB:Bl w w2:=((((yv _ _).alloc (yr _) _).alloc oac _).alloc oab _).trans (hO.below oab (fun k U=>by rw[U];omega));clear E hO T
 go_wp2
 refine yz (v:=.slice sa l.length cap) (by simp[results,results204,go_sem]) rfl ⟨sa,cap,rfl,HB,Z.out,O,a5⟩
theorem Bq(a:OA)(c:Nat)(S:List Nd)(D p:Nat)(ka:OA)(kc:Nat)(L:Nat)(w1:Wd)(J:p<S.length)(F:w1.cell? ⟨D,0,none⟩=some (.slice a S.length c))
  (hc:∃ b o,a=some ⟨b,o,none⟩/\w1.cell? ⟨b,o+p*8+5,none⟩=some (.slice ka L kc)) :
  yO 209 #[.int .i64 p,.pointer (some ⟨D,0,none⟩)] w1 fun e w2=>e=.returned (.slice ka L kc)/\Below w1.heap.size w1 w2:=by
 obtain⟨b,o,rfl,E⟩:=hc;have I:(p:Int)<(S.length:Int):=oaa
 generalize S.length=n at *
 go_enter func209,ntmps209
 go_wp2
 go_ret;exact⟨rfl,yv _ _⟩
theorem Br(a:OA)(c:Nat)(S:List Nd)(p u E:Int)(w:Wd)(Z:S.length<=9223372036854775807)(I:Big S)(M:aD w a S)(J:dH S [(p,u)]=E)(D:E≠0) :
  yO 199 #[.agg #[.slice a S.length c],.agg #[.int .i64 p,.int .i64 u]] w fun e w' => e=.returned (.tuple #[.slice none 0 0,.int .i64 E])/\Below w.heap.size w w' := by
 have d1:=fun(W:Wd) (ha:OA) (hW:aD W a S) (U:aZ W ha [(p,u)])=>tX a c S ha 1 [(p,u)] W Z I hW oac U;rw[J] at d1;have O:Hid _:=d1;have T:Hid (aD w a S):=M;clear M d1 J I;have hz:(E == 0)=false:=by simp[D]
 generalize S.length=n at *
 go_enter func199,ntmps199
 go_wp2_with (go_at_call 185;refine(O _ _ (T.below ((((yv _ _).alloc (yr _) _).alloc oac _).alloc oab _)) (wX _ _ _ _ oaf oaf)).mono ?_;rintro e w1 ⟨rfl,F⟩)
 refine yz (v:=.tuple #[.slice none 0 0,.int .i64 E]) (by simp[results,results199,go_sem]) rfl ⟨rfl,?_⟩;exact((((yv _ _).alloc (yr _) _).alloc oac _).alloc oab _).trans (F.mono oab)
theorem IG(a:OA)(c:Nat)(S:List Nd)(k f:Nat)(u:Int)(w:Wd)(hN:S.length<=9223372036854775807)(hB:Big S)(hS:aD w a S)(hE:dH S [((k:Int),u)]=0)(hk:k<S.length)(hD:Deep S f k)(hlen:(bZ S f k).length<=1000000) :
  yO 199 #[.agg #[.slice a S.length c],.agg #[.int .i64 k,.int .i64 u]] w fun e w' => ∃ sa cap,e=.returned (.tuple #[.slice sa (bZ S f k).length cap,.int .i64 0])/\Below w.heap.size w w' /\ aG w' sa (bZ S f k)/\(bZ S f k).length<=cap/\cap<=9223372036854775807:=by
 have d1:=fun(W:Wd) (ha:OA) (hW:aD W a S) (hH:aZ W ha [((k:Int),u)])=>tX a c S ha 1 [((k:Int),u)] W hN hB hW oac hH;rw[hE] at d1;have D1:Hid _:=d1;have HS:Hid (aD w a S):=hS
 have D2:Hid (∀ (w1:Wd) (J:Nat),w1.cell? ⟨J,0,none⟩=some (.slice a S.length c)->Bl w w1 ->
   yO 204 #[.int .i64 k,.func (.func 209) #[] #[.pointer (some ⟨J,0,none⟩)]] w1 fun e w' => ∃ sa cap,e=.returned (.slice sa (bZ S f k).length cap)/\Below w1.heap.size w1 w' /\ aG w' sa (bZ S f k)/\(bZ S f k).length<=cap/\cap<=9223372036854775807):=fun w1 J h1 D=>by
  have a5:=yi _ _ h1
  have h:=PZ (fun p=>(nd S p).ks) S.length 209 #[.pointer (some ⟨J,0,none⟩)] k f w1 (yM func209 oad rfl) (fun p hp=>by
   obtain⟨b,o,ea,c0,c1,c2,c3,c4,⟨ka,kc,c5,a7⟩,c6,c7⟩:=hS p hp;have E:∀ w2,Bl w1 w2->Bl w w2:=fun w2 I=>D.trans (I.mono D.size);exact⟨ka,kc,hB p hp,fun w2 I=>a7.below (E w2 I),fun w2 I=>Bq a c S J p ka kc _ w2 hp ((I.cell (by exact a5)).trans h1) ⟨b,o,ea,((E w2 I).cell (by exact yi _ _ c5)).trans c5⟩⟩) hk (PX hD) (by rw[IE];exact hlen)
  rw[IE] at h;exact h
 clear hS d1 hE hB hD;generalize S.length=n at *;generalize hl:bZ S f k=l at *;have HL:Hid _:=hl;clear hl
 go_enter func199,ntmps199
 go_wp2_with (first
  |(go_at_call 185;refine(D1 _ _ (HS.below ((((yv _ _).alloc (yr _) _).alloc oac _).alloc oab _)) (wX _ _ _ _ oaf oaf)).mono ?_;rintro e w1 ⟨rfl,D⟩;simp only[yw] at D;obtain⟨l0,l1,l2⟩:=Bo D;have a8:=D.size;simp only[yw] at a8;have F:Bl w w1:=((((yv _ _).alloc (yr _) _).alloc oac _).alloc oab _).trans (D.mono oaa))
  |(go_at_call 204;refine(D2 _ _ l0 F).mono ?_;rintro e w2 ⟨sa,cap,rfl,M,T,O,a6⟩;have Z:Hid _:=T;clear T;have U:Hid _:=M;clear M)
  | go_in)
 refine yz (v:=.tuple #[.slice sa l.length cap,.int .i64 0]) (by simp[results,results199,go_sem]) rfl ⟨sa,cap,rfl,F.trans (U.mono F.size),Z.out,O,a6⟩
theorem Bu{u:Bool}{n t m:Int}{k:Value}{h:Int}{c:Bool}(hb:Below (w.heap.size+1+1) ((w.alloc (.cells #[.bool u,.int .i64 n,.int .i64 t,.int .i64 m,.int .i64 p,k,.int .i64 h,.bool c] 57)).alloc (.cells #[.bool false,.int .i64 0,.int .i64 0,.int .i64 0,.int .i64 0,.slice none 0 0,.int .i64 0,.bool false] 57)) w1) :
  (w1.cell? ⟨w.heap.size,0,none⟩=some (.bool u)/\w1.cell? ⟨w.heap.size,1,none⟩=some (.int .i64 n)/\w1.cell? ⟨w.heap.size,2,none⟩=some (.int .i64 t)/\w1.cell? ⟨w.heap.size,3,none⟩=some (.int .i64 m)/\w1.cell? ⟨w.heap.size,4,none⟩=some (.int .i64 p)/\w1.cell? ⟨w.heap.size,5,none⟩=some k/\w1.cell? ⟨w.heap.size,6,none⟩=some (.int .i64 h)/\w1.cell? ⟨w.heap.size,7,none⟩=some (.bool c)) /\
  (w1.cell? ⟨w.heap.size+1,0,none⟩=some (.bool false)/\w1.cell? ⟨w.heap.size+1,1,none⟩=some (.int .i64 0)/\w1.cell? ⟨w.heap.size+1,2,none⟩=some (.int .i64 0)/\w1.cell? ⟨w.heap.size+1,3,none⟩=some (.int .i64 0)/\w1.cell? ⟨w.heap.size+1,4,none⟩=some (.int .i64 0)/\w1.cell? ⟨w.heap.size+1,5,none⟩=some (.slice none 0 0)/\w1.cell? ⟨w.heap.size+1,6,none⟩=some (.int .i64 0)/\w1.cell? ⟨w.heap.size+1,7,none⟩=some (.bool false)) /\
  (∀ o,w1.frozen? ⟨w.heap.size,o,none⟩=false)/\(∀ o,w1.frozen? ⟨w.heap.size+1,o,none⟩=false):=by
 refine⟨⟨?_,?_,?_,?_,?_,?_,?_,?_⟩,⟨?_,?_,?_,?_,?_,?_,?_,?_⟩,fun o=>?_,fun o=>?_⟩
 ·exact(hb.cell oab).trans oaf
 ·exact(hb.cell oab).trans oaf
 ·exact(hb.cell oab).trans oaf
 ·exact(hb.cell oab).trans oaf
 ·exact(hb.cell oab).trans oaf
 ·exact(hb.cell oab).trans oaf
 ·exact(hb.cell oab).trans oaf
 ·exact(hb.cell oab).trans oaf
 ·exact(hb.cell oac).trans oaf
 ·exact(hb.cell oac).trans oaf
 ·exact(hb.cell oac).trans oaf
 ·exact(hb.cell oac).trans oaf
 ·exact(hb.cell oac).trans oaf
 ·exact(hb.cell oac).trans oaf
 ·exact(hb.cell oac).trans oaf
 ·exact(hb.cell oac).trans oaf
 ·exact(hb.frozen oab).trans oaf
 ·exact(hb.frozen oac).trans oaf
theorem QB(x:Nd)(ka:OA)(kc:Nat)(w:Wd)(O:x.ks.length<=1000000)(I:aG w ka x.ks) :
  yO 44 #[.agg #[.bool x.u,.int .i64 x.n,.int .i64 x.t,.int .i64 x.m,.int .i64 x.p,.slice ka x.ks.length kc,.int .i64 x.h,.bool x.c]] w fun e w' => ∃ g,e=.returned (.agg #[.bool x.u,.int .i64 x.n,.int .i64 x.t,.int .i64 x.m,.int .i64 x.p,.slice (some ⟨g,0,none⟩) x.ks.length x.ks.length,.int .i64 x.h,.bool x.c])/\Below w.heap.size w w' /\ w.heap.size<=g/\w'.rowIs g 3 x.ks.length (fun j=>.int .i64 (x.ks.getD j 0)):=by
 obtain⟨u,n,t,m,p,ks,h,c⟩:=x;dsimp only at *;have D:Hid (∀ U Z:Obj,_):=fun U Z=>IJ ka kc ks ((w.alloc U).alloc Z) O (I.below (aM _ _ _));clear I;obtain⟨l,hl⟩:∃ l,ks.length=l:=⟨_,rfl⟩;rw[hl] at D;rw[hl];clear hl O
 go_enter func44,ntmps44
 go_wp2_with fail
 refine yj (D _ _) ?_;rintro e w3 ⟨rfl,F,E⟩;simp only[yw] at F E;obtain⟨⟨l0,l1,l2,l3,l4,l5,l6,l7⟩,⟨z0,z1,z2,z3,z4,z5,z6,z7⟩,f1,f2⟩:=Bu F;have T:w.heap.size+1+1<w3.heap.size:=World.rowIs.lt E;have M:Hid (w3.rowIs (w.heap.size+1+1) 3 l (fun j=>.int .i64 (ks.getD j 0))):=E;have J:Hid (Bl w w3):=(aM _ _ _).trans (F.mono oaa);clear F E D;simp only[yw]
 go_wp2
 refine yz (v:=.agg #[.bool u,.int .i64 n,.int .i64 t,.int .i64 m,.int .i64 p,.slice (some ⟨w.heap.size+1+1,0,none⟩) l l,.int .i64 h,.bool c]) (by simp[results,results44,go_sem,z0,z1,z2,z3,z4,z5,z6,z7]) rfl ⟨w.heap.size+1+1,rfl,?_,oaa,?_⟩
 ·exact((((((((J.setCell oac _).setCell oac _).setCell oac _).setCell oac _).setCell oac _).setCell oac _).setCell oac _).setCell oac _).setCell oac _
 ·exact((((((((M.setOther oab _).setOther oac _).setOther oac _).setOther oac _).setOther oac _).setOther oac _).setOther oac _).setOther oac _).setOther oac _
def NdR(w:Wd)(F:Nat->Value)(o:Nat)(x:Nd)(kb kc:Nat):Prop :=
 F o=.bool x.u/\F (o+1)=.int .i64 x.n/\F (o+2)=.int .i64 x.t/\F (o+3)=.int .i64 x.m/\F (o+4)=.int .i64 x.p/\F (o+5)=.slice (some ⟨kb,0,none⟩) x.ks.length kc/\F (o+6)=.int .i64 x.h/\F (o+7)=.bool x.c /\
 x.ks.length<=kc/\kc<=1000/\∃ G,w.rowIs kb 3 kc G/\∀ j,j<x.ks.length->G j=.int .i64 (x.ks.getD j 0)
def Own(w:Wd)(B g:Nat)(S:List Nd)(kb kc:Nat->Nat)(k:Nat):Prop :=
 B<=g/\∃ F,w.rowIs g 57 (S.length*8) F/\(∀ i,i<k->NdR w F (i*8) (nd S i) (kb i) (kc i))/\(∀ i,i<k->g<kb i)/\(∀ i,i<k->∀ j,j<k->kb i=kb j->i=j)
theorem NdR.below{w:World}(h:NdR w F o x kb kc)(hb:Below B w w')(hB:kb<B):NdR w' F o x kb kc:=by
 obtain⟨E,I,J,M,O,T,U,Z,e8,D,G,hG,e9⟩:=h;exact⟨E,I,J,M,O,T,U,Z,e8,D,G,hG.of_block (hb.block kb hB),e9⟩
theorem NdR.row(h:NdR w F o x kb kc):kb<w.heap.size:=by
 obtain⟨_,_,_,_,_,_,_,_,_,_,G,D,_⟩:=h;exact D.lt
theorem Own.nds{S:List Nd}{kb kc:Nat->Nat}(h:Own w B g S kb kc S.length):aD w (some ⟨g,0,none⟩) S:=fun i hi=>by
 obtain⟨_,F,D,hN,_,_⟩:=h;obtain⟨E,I,J,M,O,T,U,Z,e8,a5,G,hG,e9⟩:=hN i hi;refine⟨g,0,rfl,?_⟩;rw[yD];refine⟨?_,?_,?_,?_,?_,⟨some ⟨kb i,0,none⟩,kc i,?_,fun j hj=>⟨kb i,0,rfl,?_⟩⟩,?_,?_⟩
 ·rw[D.cell oaa,E]
 ·rw[D.cell oaa,I]
 ·rw[D.cell oaa,J]
 ·rw[D.cell oaa,M]
 ·rw[D.cell oaa,O]
 ·rw[D.cell oaa,T]
 ·rw[yD,hG.cell oaa,e9 j hj]
 ·rw[D.cell oaa,U]
 ·rw[D.cell oaa,Z]
def lX(F:Nat->Value)(o:Nat)(D v1 v2 E I J M O:Value):Nat->Value:=fun j =>
 if j=o+7 then O else if j=o+6 then M else if j=o+5 then J else if j=o+4 then I else if j=o+3 then E else if j=o+2 then v2 else if j=o+1 then v1 else if j=o then D else F j
theorem QC(h:w.rowIs g t n F)(o:Nat)(D v1 v2 E I J M O:Value) :
  ((((((((w.setCell ⟨g,o,none⟩ D).setCell ⟨g,o+1,none⟩ v1).setCell ⟨g,o+2,none⟩ v2).setCell ⟨g,o+3,none⟩ E).setCell ⟨g,o+4,none⟩ I).setCell ⟨g,o+5,none⟩ J).setCell ⟨g,o+6,none⟩ M).setCell ⟨g,o+7,none⟩ O).rowIs g t n (lX F o D v1 v2 E I J M O) :=
 (((((((h.set _ _).set _ _).set _ _).set _ _).set _ _).set _ _).set _ _).set _ _
theorem oL{j:Nat}{D v1 v2 E I J M O:Value}(h:j<o\/o+8<=j):lX F o D v1 v2 E I J M O j=F j:=by
 unfold lX;rw[yd oaa,yd oaa,yd oaa,yd oaa,yd oaa,yd oaa,yd oaa,yd oaa]
def rC:Array Value:=#[.bool false,.int .i64 0,.int .i64 0,.int .i64 0,.int .i64 0,.slice none 0 0,.int .i64 0,.bool false]
theorem Bv:(prog.info? 57).map (fun i=>(i.zero,i.size,i.bytes))=some (some (.agg #[.bool false,.int .i64 0,.int .i64 0,.int .i64 0,.int .i64 0,.slice none 0 0,.int .i64 0,.bool false]),8,80):=oad
theorem Bw(n:Nat)(hn:n<=24)(w:Wd):(Instr.makeSlice 41 (.int .i64 (n:Int)) (.int .i64 (n:Int))).run prog w=.ok (.slice (some ⟨w.heap.size,0,none⟩) n n) (w.alloc (.cells (madeCells rC (n*8)) 57)):=by
 obtain⟨i,hi,D,E,F⟩:=info_parts Bv;have h:=run_make (P:=prog) w 41 57 i _ underlying41 hi D .i64 .i64 n n oaa oaa (by rw[F];omega) oaa;rw[E] at h;simp only[yk] at h;exact h
theorem Bz(w:Wd)(n:Nat):(w.alloc (.cells (madeCells rC (n*8)) 57)).rowIs w.heap.size 57 (n*8) (fun j=>rC[j % 8]!):=by
 have h:=World.rowIs_alloc w (madeCells rC (n*8)) 57 (fun j=>rC[j % 8]!) (fun i hi=>by rw[size_madeCells] at hi;simp[madeCells,hi,rC]);rw[size_madeCells] at h;exact h
structure aC (X:Nat->Prop) (w w' : World):Prop where
 size:w.heap.size<=w'.heap.size
 block:∀ b,b<w.heap.size->¬ X b->w'.heap[b]?=w.heap[b]?
theorem aC.refl(X:Nat->Prop)(w:Wd):aC X w w:=⟨yr _,fun _ _ _=>rfl⟩
theorem aC.of_below{w:World}(h:Bl w w'):aC X w w' :=⟨h.size,fun b hb _=>h.block b hb⟩
theorem aC.trans{w' D:Wd}(h:aC X w w')(k:aC X w' D):aC X w D:=⟨yJ h.size k.size,fun b hb E=>(k.block b (yC hb h.size) E).trans (h.block b hb E)⟩
theorem aC.set(w:Wd)(v:Value)(h:X b):aC X w (w.setCell ⟨b,o,none⟩ v):=⟨oac,fun k _ D=>yx _ _ _ _ (fun e=>D (by rw[e];exact h))⟩
theorem aC.grown{w:World}{r:Option Nat}(h:w.grownBy w' r)(E:∀ b,r=some b->X b):aC X w w' :=⟨h.size,fun k D hn=>h.block k D (fun e=>hn (E k e.symm))⟩
theorem QE{w w1:World}(hs:w.heap.size<=w1.heap.size)(hb:∀ b,b<w.heap.size->¬ X b->w1.heap[b]?=w.heap[b]?)(E:∀ b,b<w.heap.size->Y b->X b)(h:aC Y w1 w'):aC X w w' :=⟨yJ hs h.size,fun b h1 D=>(h.block b (yC h1 hs) (fun F=>D (E b h1 F))).trans (hb b h1 D)⟩
theorem aC.mono{w:World}(h:aC X w w')(D:∀ b,X b->Y b):aC Y w w' :=⟨h.size,fun b hb F=>h.block b hb (fun E=>F (D b E))⟩
def St(X:Nat->Prop)(P:World->Prop)(w:Wd):Prop:=∀ w', aC X w w' -> P w'
theorem St.off{w:World}(h:St X P w)(F:aC X w w'):St X P w' := fun D E=>h D (F.trans E)
theorem St.at(h:St X P w):P w:=h w (aC.refl X w)
theorem St.less(h:St Y P w)(D:∀ b,X b->Y b):St X P w:=fun w' E=>h w' (E.mono D)
theorem St.grow(h:St X P w)(D:aC X w w1)(F:∀ b,b<w.heap.size->Y b->X b):St Y P w1:=fun w' E=>h w' (QE D.size D.block F E)
theorem St.imp{Q:World->Prop}(h:St X P w)(D:∀ V,P V->Q V):St X Q w:=fun w' E=>D w' (h w' E)
theorem QF(W:Wd)(D:Array Value)(t o:Nat):(W.alloc (.cells D t)).frozen? ⟨W.heap.size,o,none⟩=false:=by
 have e:=yN W (.cells D t);simp only[World.frozen?,e];simp
theorem Ca(W:Wd)(D:Array Value)(t o:Nat)(E:Obj):((W.alloc (.cells D t)).alloc E).frozen? ⟨W.heap.size,o,none⟩=false:=((aB _ _).frozen oac).trans (QF W D t o)
theorem IK(W:Wd)(E:Array Value)(t o:Nat)(D:Obj):((W.alloc D).alloc (.cells E t)).frozen? ⟨W.heap.size+1,o,none⟩=false:=by
 have:=QF (W.alloc D) E t o
 rwa [yw] at this
def aN{E:Type}(cv:E->Nat->Value)(t s n:Nat)(R:Nat->E->Nat->Nat->World->Prop)(g k:Nat)(w:Wd):Prop :=
 ∃ (v:Nat->E) (lo hi:Nat->Nat) (F:Nat->Value),w.rowIs g t (n*s) F/\∀ i,i<k->(∀ j,j<s->F (i*s+j)=cv (v i) j)/\g<lo i/\lo i<=hi i/\hi i<=w.heap.size/\(∀ D,D<i->hi D<=lo i)/\St (fun b=>b<lo i\/hi i<=b) (R i (v i) (lo i) (hi i)) w
theorem aN.zero{E:Type}{cv:E->Nat->Value}(w:Wd)(D:Array Value)(t s n:Nat)(R:Nat->E->Nat->Nat->World->Prop)(F:E):aN cv t s n R w.heap.size 0 (w.alloc (.cells (madeCells D (n*s)) t)):=by
 have h:=World.rowIs_alloc w (madeCells D (n*s)) t (fun j=>(madeCells D (n*s))[j]!) (fun i hi=>by simp[hi]);rw[size_madeCells] at h;exact⟨fun _=>F,fun _=>0,fun _=>0,_,h,fun i hi=>absurd hi (yB _)⟩
theorem aN.facts{E:Type}{cv:E->Nat->Value}{R:Nat->E->Nat->Nat->World->Prop}(h:aN cv t s n R g k w):g<w.heap.size/\(∀ o,w.frozen? ⟨g,o,none⟩=false)/\∃ F:Nat->Value,∀ j,j<n*s->w.cell? ⟨g,j,none⟩=some (F j):=by
 obtain⟨_,_,_,F,D,_⟩:=h;exact⟨D.lt,D.frozen,F,fun j I=>D.cell I⟩
theorem aN.step{E:Type}{cv:E->Nat->Value}{lo hi:Nat}{R:Nat->E->Nat->Nat->World->Prop}{wr w3:World}{x:E}(h:aN cv t s n R g k wr)(hk:k<n)(M:Bl wr w3)(a6:wr.heap.size<=lo)(O:lo<=hi)(h3:St (fun b=>b<lo\/hi<=b) (R k x lo hi) w3)(a7:hi=w3.heap.size)(T:aC (fun b=>b=g) w3 w')
  (hF:∀ F,w3.rowIs g t (n*s) F->∃ I,w'.rowIs g t (n*s) I/\(∀ j,j<s->I (k*s+j)=cv x j)/\∀ i,i<k->∀ j,j<s->I (i*s+j)=F (i*s+j)):aN cv t s n R g (k+1) w' := by
 obtain⟨v,l,u,F,hr,J⟩:=h;have hg:=hr.lt;obtain⟨I,U,f1,f2⟩:=hF F (hr.of_block (M.block g hg));have s3:=M.size;have s4:=T.size;refine⟨fun i=>if i=k then x else v i,fun i=>if i=k then lo else l i,fun i=>if i=k then hi else u i,I,U,fun i a5=>?_⟩;dsimp only;by_cases e:i=k
 ·subst e;rw[ye rfl,ye rfl,ye rfl];refine⟨f1,oaa,O,oaa,fun Z D=>?_,h3.off (T.mono (fun b hb=>Or.inl (by rw[hb];omega)))⟩;rw[yd oaa];have:=(J Z D).2.2.2.1;omega
 ·rw[yd e,yd e,yd e];obtain⟨g1,g2,g3,g4,g5,g6⟩:=J i oaa;refine⟨fun j hj=>(f2 i oaa j hj).trans (g1 j hj),g2,g3,oaa,fun Z D=>?_,(g6.off (aC.of_below M)).off (T.mono (fun b hb=>Or.inl (by rw[hb];exact g2)))⟩;rw[yd oaa];exact g5 Z D
theorem aN.off{E:Type}{cv:E->Nat->Value}{R:Nat->E->Nat->Nat->World->Prop}{w:World}(h:aN cv t s n R g k w)(I:aC (fun b=>b<g\/w.heap.size<=b) w w'):aN cv t s n R g k w' := by
 obtain⟨v,l,u,F,J,D⟩:=h;have hg:=J.lt;refine⟨v,l,u,F,J.of_block (I.block g J.lt (by show ¬ (g<g\/w.heap.size<=g);omega)),fun i hi=>?_⟩;obtain⟨g1,g2,g3,M,O,T⟩:=D i hi;exact⟨g1,g2,g3,yJ M I.size,O,T.off (I.mono (fun b hb=>by have U:b<g\/w.heap.size<=b:=hb;show b<l i\/u i<=b;omega))⟩
theorem aN.st{E:Type}{cv:E->Nat->Value}{H:Nat}{R:Nat->E->Nat->Nat->World->Prop}(h:aN cv t s n R g k w)(I:B<=g)(J:w.heap.size<=H):St (fun b=>b<B\/H<=b) (aN cv t s n R g k) w:=fun w' D=>h.off (D.mono (fun b hb=>by have F:b<B\/H<=b:=hb;show b<g\/w.heap.size<=b;omega))
theorem aN.set{E:Type}{cv:E->Nat->Value}{R:Nat->E->Nat->Nat->World->Prop}(h:aN cv t s n R g k w)(hb:b<g)(u:Value):aN cv t s n R g k (w.setCell ⟨b,o,none⟩ u):=h.off (aC.set w u (Or.inl hb))
structure ENd where
 u:Bool
 n:Int
 t:Int
 m:Int
 p:Int
 ka:OA
 kl:Nat
 kc:Nat
 h:Int
 c:Bool
def tZ(x:ENd):Nat->Value
 | 0=>.bool x.u
 | 1=>.int .i64 x.n
 | 2=>.int .i64 x.t
 | 3=>.int .i64 x.m
 | 4=>.int .i64 x.p
 | 5=>.slice x.ka x.kl x.kc
 | 6=>.int .i64 x.h
 | _=>.bool x.c
theorem Cb(n:Nat)(hn:n<=100000)(w:Wd):(Instr.makeSlice 41 (.int .i64 (n:Int)) (.int .i64 (n:Int))).run prog w=.ok (.slice (some ⟨w.heap.size,0,none⟩) n n) (w.alloc (.cells (madeCells #[.bool false,.int .i64 0,.int .i64 0,.int .i64 0,.int .i64 0,.slice none 0 0,.int .i64 0,.bool false] (n*8)) 57)):=by
 have I:(prog.info? 57).map (fun i=>(i.zero,i.size,i.bytes))=some (some (.agg #[.bool false,.int .i64 0,.int .i64 0,.int .i64 0,.int .i64 0,.slice none 0 0,.int .i64 0,.bool false]),8,80):=oad
 obtain⟨i,hi,D,E,F⟩:=info_parts I;have h:=run_make (P:=prog) w 41 57 i _ underlying41 hi D .i64 .i64 n n oaa oaa (by rw[F];omega) oaa;rw[E] at h;simp only[yk] at h;exact h
theorem aN.putNd(h:w.rowIs g 57 (n*8) F)(x:ENd):∃ D,((((((((w.setCell ⟨g,k*8,none⟩ (.bool x.u)).setCell ⟨g,k*8+1,none⟩ (.int .i64 x.n)).setCell ⟨g,k*8+2,none⟩ (.int .i64 x.t)).setCell ⟨g,k*8+3,none⟩ (.int .i64 x.m)).setCell ⟨g,k*8+4,none⟩ (.int .i64 x.p)).setCell ⟨g,k*8+5,none⟩ (.slice x.ka x.kl x.kc)).setCell ⟨g,k*8+6,none⟩ (.int .i64 x.h)).setCell ⟨g,k*8+7,none⟩ (.bool x.c)).rowIs g 57 (n*8) D/\(∀ j,j<8->D (k*8+j)=tZ x j)/\∀ i,i<k->∀ j,j<8->D (i*8+j)=F (i*8+j):=by
 refine⟨_,(((((((h.set _ _).set _ _).set _ _).set _ _).set _ _).set _ _).set _ _).set _ _,fun j E=>?_,fun i hi j E=>?_⟩
 ·rcases(by omega:j=0\/j=1\/j=2\/j=3\/j=4\/j=5\/j=6\/j=7) with rfl|rfl|rfl|rfl|rfl|rfl|rfl|rfl
  ·rw[yd oaa,yd oaa,yd oaa,yd oaa,yd oaa,yd oaa,yd oaa,ye oaa];rfl
  ·rw[yd oaa,yd oaa,yd oaa,yd oaa,yd oaa,yd oaa,ye rfl];rfl
  ·rw[yd oaa,yd oaa,yd oaa,yd oaa,yd oaa,ye rfl];rfl
  ·rw[yd oaa,yd oaa,yd oaa,yd oaa,ye rfl];rfl
  ·rw[yd oaa,yd oaa,yd oaa,ye rfl];rfl
  ·rw[yd oaa,yd oaa,ye rfl];rfl
  ·rw[yd oaa,ye rfl];rfl
  ·rw[ye rfl];rfl
 ·rw[yd oaa,yd oaa,yd oaa,yd oaa,yd oaa,yd oaa,yd oaa,yd oaa]
theorem Cc(K:Nat)(eg:∀ args w,(callFunc K args).run prog w=.ok (.enter K args) w)(a:OA)(c n:Nat)(S:Nat->ENd)(R:Nat->ENd->Nat->Nat->World->Prop)(w:Wd)(hn:n<=100000)
  (hs:∀ i,i<n->∃ b o,a=some ⟨b,o,none⟩/\w.cell? ⟨b,o+i*8,none⟩=some (.bool (S i).u)/\w.cell? ⟨b,o+i*8+1,none⟩=some (.int .i64 (S i).n)/\w.cell? ⟨b,o+i*8+2,none⟩=some (.int .i64 (S i).t)/\w.cell? ⟨b,o+i*8+3,none⟩=some (.int .i64 (S i).m)/\w.cell? ⟨b,o+i*8+4,none⟩=some (.int .i64 (S i).p)/\w.cell? ⟨b,o+i*8+5,none⟩=some (.slice (S i).ka (S i).kl (S i).kc)/\w.cell? ⟨b,o+i*8+6,none⟩=some (.int .i64 (S i).h)/\w.cell? ⟨b,o+i*8+7,none⟩=some (.bool (S i).c))
  (hK:∀ i,i<n->∀ W,Bl w W->yO K #[.agg #[.bool (S i).u,.int .i64 (S i).n,.int .i64 (S i).t,.int .i64 (S i).m,.int .i64 (S i).p,.slice (S i).ka (S i).kl (S i).kc,.int .i64 (S i).h,.bool (S i).c]] W fun e U=>∃ y:ENd,e=.returned (.agg #[.bool y.u,.int .i64 y.n,.int .i64 y.t,.int .i64 y.m,.int .i64 y.p,.slice y.ka y.kl y.kc,.int .i64 y.h,.bool y.c])/\Below W.heap.size W U/\St (fun b=>b<W.heap.size\/U.heap.size<=b) (R i y W.heap.size U.heap.size) U) :
  yO 133 #[.slice a n c,.func (.func K) #[] #[]] w fun e w' => e=.returned (.slice (some ⟨w.heap.size,0,none⟩) n n)/\Below w.heap.size w w' /\ aN tZ 57 8 n R w.heap.size n w' := by
 have HS:Hid _:=hs;have HK:Hid _:=hK;clear hs hK;have b3:=Cb n hn
 go_enter func133,ntmps133
 go_wp2
 go_loopg [13] n (fun m s13 wr=>∃ k:Nat,k<=n/\n-k<=m/\s13=.int .i64 k/\Below w.heap.size w wr/\Hid (aN tZ 57 8 n R w.heap.size k wr))
 case atStart=>exact⟨0,oaa,oaa,rfl,aB _ _,aN.zero w _ 57 8 n R (S 0)⟩
 case round =>
  obtain⟨k,hk,hg,rfl,hb,O⟩:=hrel;by_cases T:k<n
  ·have b0:(k:Int)<(n:Int):=oaa;obtain⟨b,o,rfl,c0,c1,c2,c3,c4,c5,Z,c7⟩:=HS.out k T;replace c0:=aA c0 hb;replace c1:=aA c1 hb;replace c2:=aA c2 hb;replace c3:=aA c3 hb;replace c4:=aA c4 hb;replace c5:=aA c5 hb;replace Z:=aA Z hb;replace c7:=aA c7 hb;have b1:b<wr.heap.size:=yi _ _ c0;obtain⟨E,a5,F,J⟩:=O.facts;have D:Hid (∀ W,Bl wr W->Calls _ _ _ _ _):=fun W hW=>HK.out k T W (hb.trans (hW.mono hb.size));generalize S k=x at *;obtain⟨xu,xn,xt,xm,xp,b4,b6,b5,xh,xc⟩:=x;dsimp only at c0 c1 c2 c3 c4 c5 Z c7 D
   go_wp2_with (go_at_fn K;refine(D _ ?nd).mono ?_;(case nd=>exact aB _ _);rintro e w3 ⟨⟨yu,yn,yt,ym,yp,a6,a8,a7,yh,yc⟩,rfl,M,h3⟩;have HR:Hid _:=h3;clear h3;have I:Hid (Bl wr w3):=(aB _ _).trans (M.mono oac);have s3:Hid (wr.heap.size<=w3.heap.size):=I.size;have SZ:Hid _:=M.size;clear M;have q0:=(I.cell (by exact E)).trans (J (k*8) oaa);have q1:=(I.cell (by exact E)).trans (J (k*8+1) oaa);have q2:=(I.cell (by exact E)).trans (J (k*8+2) oaa);have q3:=(I.cell (by exact E)).trans (J (k*8+3) oaa);have q4:=(I.cell (by exact E)).trans (J (k*8+4) oaa);have q5:=(I.cell (by exact E)).trans (J (k*8+5) oaa);have q6:=(I.cell (by exact E)).trans (J (k*8+6) oaa);have q7:=(I.cell (by exact E)).trans (J (k*8+7) oaa);have a9:=fun o=>(I.frozen (by exact E)).trans (a5 o);have b2:w.heap.size<w3.heap.size:=yC E s3.out)
   go_roundg (n-(k+1))
   case measure=>omega
   case rel =>
    refine⟨k+1,oaa,oaa,by go_num,(((((((((hb.trans (I.mono hb.size)).setCell oac _).setCell oac _).setCell oac _).setCell oac _).setCell oac _).setCell oac _).setCell oac _).setCell oac _),aN.step O.out T I.out oac ?_ HR.out rfl (((((((((aC.refl (fun b=>b=w.heap.size) _).trans (aC.set (X:=fun b=>b=w.heap.size) _ _ rfl)).trans (aC.set (X:=fun b=>b=w.heap.size) _ _ rfl)).trans (aC.set (X:=fun b=>b=w.heap.size) _ _ rfl)).trans (aC.set (X:=fun b=>b=w.heap.size) _ _ rfl)).trans (aC.set (X:=fun b=>b=w.heap.size) _ _ rfl)).trans (aC.set (X:=fun b=>b=w.heap.size) _ _ rfl)).trans (aC.set (X:=fun b=>b=w.heap.size) _ _ rfl)).trans (aC.set (X:=fun b=>b=w.heap.size) _ _ rfl)) (fun F J=>aN.putNd J ⟨yu,yn,yt,ym,yp,a6,a8,a7,yh,yc⟩)⟩;have:=SZ.out;simpa using this
  ·have:k=n:=oaa;subst this
   go_wp2
   go_ret;exact⟨rfl,hb,O.out⟩
def idx(ks:List Int)(v:Int):Int:=if v ∈ ks then (ks.idxOf v:Int) else -1
theorem Ce(h:∀ i,i<ks.length->ks.getD i 0≠v):idx ks v = -1/\v ∉ ks:=by
 have hn:v ∉ ks:=fun D=>by
  obtain⟨i,hi,e⟩:=List.getElem_of_mem D;exact h i hi (by rw[aJ ks 0 hi];exact e)
 exact⟨yd hn,hn⟩
theorem QG:∀ (ks:List Int) (v:Int) (k:Nat),k<ks.length->ks.getD k 0=v->(∀ i,i<k->ks.getD i 0≠v)->ks.idxOf v=k
 | [],_,_,h,_,_=>by simp at h
 | x :: r,v,0,_,h,_=>by
  have:x=v:=by simpa using h
  rw[this];simp
 | x :: r,v,k+1,F,h,E=>by
  have I:x≠v:=by simpa using E 0 oaa
  have:=QG r v k (by simpa using F) (by simpa using h) (fun i hi=>by simpa using E (i+1) oaa);have D:(x == v)=false:=beq_eq_false_iff_ne.2 I;rw[List.idxOf_cons,this,D];rfl
theorem Cf(D:k<ks.length)(h:ks.getD k 0=v)(F:∀ i,i<k->ks.getD i 0≠v):idx ks v=k/\v ∈ ks:=by
 have E:v ∈ ks:=by rw[<- h,aJ ks 0 D];exact List.getElem_mem D
 exact⟨by unfold idx;rw[ye E,QG ks v k D h F],E⟩
theorem Cg(a:OA)(c:Nat)(ks:List Int)(v:Int)(w:Wd)(I:ks.length<=9223372036854775807)(D:aG w a ks) :
  yO 217 #[.slice a ks.length c,.int .i64 v] w fun e w' => e=.returned (.int .i64 (idx ks v))/\w' = w:=by
 have N:Hid ((∀ i,i<ks.length->ks.getD i 0≠v)->idx ks v = -1):=fun h=>(Ce h).1;have Sm:Hid (∀ k,k<ks.length->ks.getD k 0=v->(∀ i,i<k->ks.getD i 0≠v)->idx ks v=k):=fun k h1 U h3=>(Cf h1 U h3).1;generalize idx ks v=r at *;generalize hn:ks.length=n at *;have O:Hid (ks.length=n):=hn;clear hn
 go_enter func217,ntmps217
 go_wp2
 go_loopg [8] n (fun g s8 wr=>∃ k:Nat,k<=n/\n-k<=g/\s8=.int .i64 k/\wr=w/\Hid (∀ i,i<k->ks.getD i 0≠v))
 case atStart=>exact⟨0,oaa,oaa,rfl,rfl,fun i hi=>oaa⟩
 case round =>
  obtain⟨k,hk,hg,rfl,rfl,A⟩:=hrel;by_cases F:k<n
  ·obtain⟨b,o,rfl,hc⟩:=D k (by rw[O.out];exact F);clear D;by_cases E:v=ks.getD k 0
   ·have Z:=Sm.out k F E.symm A.out;subst Z;rw[<- E] at hc;clear E
    go_wp2
    go_ret;exact⟨rfl,rfl⟩
   ·have M:Hid (ks.getD k 0≠v):=fun e=>E e.symm;have h1:(v == ks.getD k 0)=false:=beq_eq_false_iff_ne.2 E;generalize J:ks.getD k 0=y at *;have T:Hid _:=J;clear J
    go_wp2
    go_roundg (n-(k+1))
    case measure=>omega
    case rel =>
     refine⟨k+1,oaa,oaa,by go_num,rfl,(show Hid _ from fun i hi=>?_)⟩;by_cases e:i=k
     ·rw[e,T.out];exact M.out
     ·exact A.out i oaa
  ·have:k=n:=oaa;subst this;have Z:=N.out A.out;subst Z;clear D
   go_wp2
   go_ret;exact⟨rfl,rfl⟩
theorem jX(w:Wd)(D E:Obj):Bl w ((w.alloc D).alloc E):=((yv _ _).alloc (yr _) _).alloc oac _
