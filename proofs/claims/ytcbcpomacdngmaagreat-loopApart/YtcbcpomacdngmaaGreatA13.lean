/-
  x
-/
import Derived.Test.YtcbcpomacdngmaaGreatA12
namespace Go.Proofs.YtcbcpomacdngmaaGreat
set_option maxRecDepth 100000
set_option maxHeartbeats 4000000
set_option linter.unusedVariables false
open Go.RowKit Tryz
variable{a:OA}{w w':World}{G:List Cl}
theorem Fp{q:List Tst}(h:qE q=0):1<=q.length/\q.length<=6:=by
 unfold qE at h
 split at h
 ·rename_i hb;have:=of_decide_eq_true hb;omega
 ·omega
theorem Fq{w w1:Wd}{n c:Nat}{p u:Int}(hb:Below (w.heap.size+1+1) ((w.alloc (.cells #[.slice a n c] 43)).alloc (.cells #[.int .i64 p,.int .i64 u] 61)) w1) :
  w1.cell? ⟨w.heap.size,0,none⟩=some (.slice a n c)/\w1.cell? ⟨w.heap.size+1,0,none⟩=some (.int .i64 p)/\w1.cell? ⟨w.heap.size+1,1,none⟩=some (.int .i64 u)/\Below w.heap.size w w1/\w.heap.size<w1.heap.size/\w.heap.size+1<w1.heap.size:=by
 refine⟨?_,?_,?_,(jX _ _ _).trans (hb.mono oaa),by have:=hb.size;simp at this;omega,by have:=hb.size;simp at this;omega⟩
 all_goals exact(hb.cell oag).trans oaf
def oP(S:List Nd)(k:Nat)(q:List Tst):List Int:=(bE S k).tail.filter fun p=>gY S p q
theorem Fs(a:OA)(c:Nat)(S:List Nd)(p u E:Int)(qv:Value)(w:Wd)(Z:S.length<=9223372036854775807)(J:Big S)(O:aD w a S)(M:dH S [(p,u)]=E)(F:E≠0) :
  yO 189 #[.agg #[.slice a S.length c],.agg #[.int .i64 p,.int .i64 u],qv] w fun e w' => e=.returned (.tuple #[.slice none 0 0,.int .i64 E])/\Below w.heap.size w w' := by
 have T:Hid (∀ W,aD W a S->Calls _ _ _ _ _):=fun W hW=>Br a c S p u E W Z J hW M F;have U:Hid (aD w a S):=O;have hz:(E == 0)=false:=by simp[F]
 clear O J M;generalize S.length=n at *
 go_enter func189,ntmps189
 go_wp2_with fail
 refine(T _ (U.below (jX _ _ _))).mono ?_;rintro e w1 ⟨rfl,D⟩;simp only[yw] at D;have I:Hid (Bl w w1):=(jX _ _ _).trans (D.mono oaa);clear D
 go_wp2
 go_ret2
 exact⟨rfl,I.out⟩
theorem Fu(a:OA)(c:Nat)(S:List Nd)(k:Nat)(u E:Int)(qa:OA)(qc:Nat)(q:List Tst)(w:Wd)(wf:WF S)(T:k<S.length)(hT:dH S [((k:Int),u)]=0)(hS:aD w a S)(U:q.length<=9223372036854775807)(hQ:jM w qa q)(hE:qE q=E)(M:E≠0) :
  yO 189 #[.agg #[.slice a S.length c],.agg #[.int .i64 (k:Int),.int .i64 u],.slice qa q.length qc] w fun e w' => e=.returned (.tuple #[.slice none 0 0,.int .i64 E])/\Below w.heap.size w w' := by
 have hN:=wf.small;have Z:=wf.big;have D1:Hid (∀ W,aD W a S->Calls _ _ _ _ _):=fun W O=>IG a c S k S.length u W oaa Z O hT T (wf.deep_all T) (by have:=uD wf T;omega);have d2:=fun W (O:jM W qa q)=>RU qa qc q W U O;rw[hE] at d2;have D2:Hid _:=d2;have HS:Hid (aD w a S):=hS;have HQ:Hid (jM w qa q):=hQ;have hz:(E == 0)=false:=by simp[M]
 clear hS hQ d2 hE Z wf hT;generalize (bZ S S.length k).length=OL at *;generalize S.length=n at *;generalize q.length=L at *
 go_enter func189,ntmps189
 go_wp2_with fail
 refine(D1 _ (HS.below (jX _ _ _))).mono ?_;rintro e w1 ⟨sa,cap,rfl,F,_⟩;simp only[yw] at F;have D:Hid (Bl w w1):=(jX _ _ _).trans (F.mono oaa);clear F
 go_wp2_with fail
 refine(D2 _ (HQ.below D)).mono ?_;rintro e w2 ⟨rfl,I⟩;have J:Hid (Bl w w2):=D.trans (I.mono D.size);clear I
 go_wp2
 go_ret2
 exact⟨rfl,J.out⟩
theorem Fv(f:Int->Bool)(l:List Int)(k:Nat)(h:k<l.length):(l.take (k+1)).filter f=(l.take k).filter f++(if f (l.getD k 0) then [l.getD k 0] else []):=by
 rw[List.take_add_one,List.filter_append,List.getElem?_eq_getElem h,aJ l 0 h];simp only[Option.toList,List.filter_cons,List.filter_nil]
theorem Fw(a:OA)(c:Nat)(S:List Nd)(k:Nat)(u:Int)(qa:OA)(qc:Nat)(q:List Tst)(w:Wd)(wf:WF S)(hk:k<S.length)(h3:(nd S k).u=true)(hT:dH S [((k:Int),u)]=0)(hS:aD w a S)(hQ:jM w qa q)(hq:qE q=0) :
  yO 189 #[.agg #[.slice a S.length c],.agg #[.int .i64 (k:Int),.int .i64 u],.slice qa q.length qc] w fun e w' => ∃ fa fc,e=.returned (.tuple #[.slice fa (oP S k q).length fc,.int .i64 0])/\Below w.heap.size w w' /\ aG w' fa (oP S k q)/\(oP S k q).length<=24/\∀ x:Addr,fa=some x->w.heap.size<=x.block:=by
 have hN:=wf.small;have hB:=wf.big;have hlen:=Fp hq;have b5:=Dt wf hk h3;have D1:Hid (∀ W,aD W a S->Calls _ _ _ _ _):=fun W hW=>IG a c S k S.length u W oaa hB hW hT hk (wf.deep_all hk) (by have:=uD wf hk;omega);have d2:=fun W (hW:jM W qa q)=>RU qa qc q W oaa hW;rw[hq] at d2;have D2:Hid _:=d2;have D3:Hid (∀ (p:Nat) W,p<S.length->aD W a S->jM W qa q->Calls _ _ _ _ _):=fun p W hp h1 h2=>Fg a c S p qa qc q W wf hp h1 hlen.2 h2;have HS:Hid (aD w a S):=hS;have HQ:Hid (jM w qa q):=hQ
 have d7:Hid (∀ i,i<(bE S k).tail.length->∃ p:Nat,(bE S k).tail.getD i 0=p/\p<S.length):=fun i hi=>by
  rw[List.length_tail] at hi;obtain⟨p,e,hp,_⟩:=b5.each (i+1) oaa;refine⟨p,?_,hp⟩;rw[<- e,aJ _ _ (by rw[List.length_tail];omega),aJ _ _ oaa,List.getElem_tail]
 have b7:=b5.pos;have e5:=b5.small
 have TL:Hid (∀ W sa,aG W sa (bE S k)->∃ b o,sa=some ⟨b,o,none⟩/\aG W (some ⟨b,o+1,none⟩) (bE S k).tail):=fun W sa h=>by
  obtain⟨b,o,e,_⟩:=h 0 b7;refine⟨b,o,e,fun i hi=>⟨b,o+1,rfl,?_⟩⟩;rw[List.length_tail] at hi;obtain⟨b', o', e', hc⟩:=h (i+1) oaa;rw[e] at e'
  cases e'
  rw[show o+1+i=o+(i+1) by omega,hc,aJ _ _ oaa,aJ _ _ (by rw[List.length_tail];omega),List.getElem_tail]
 have FT:Hid (∀ i,i<(bE S k).tail.length->((bE S k).tail.take (i+1)).filter (fun p=>gY S p q)=((bE S k).tail.take i).filter (fun p=>gY S p q)++(if gY S ((bE S k).tail.getD i 0) q then [(bE S k).tail.getD i 0] else [])):=fun i hi=>Fv _ _ i hi;have FE:Hid (oP S k q=((bE S k).tail.take (bE S k).tail.length).filter (fun p=>gY S p q)):=by show _=_;rw[List.take_length];rfl
 have FL:Hid (∀ i,(((bE S k).tail.take i).filter (fun p=>gY S p q)).length<=24):=fun i=>by
  refine yJ (List.length_filter_le _ _) ?_;rw[List.length_take,List.length_tail];omega
 have c7:(bZ S S.length k).length=(bE S k).tail.length+1:=by rw[List.length_tail];show (bE S k).length=_;omega
 clear hS hQ d2 hq hB wf hT b5 b7 e5;rw[show bZ S S.length k=bE S k from rfl] at D1 c7;rw[c7] at D1;clear c7;generalize oP S k q=R at *;generalize hn:S.length=n at *;have HN:Hid _:=hn;clear hn;generalize hl:q.length=L at *;have HL:Hid _:=hl;clear hl;generalize e4:(bE S k).tail.length=T at *;have d9:Hid _:=e4;clear e4;obtain⟨i0,g9,h8,h9,i1⟩:=info_parts info3
 go_enter func189,ntmps189
 go_wp2_with fail
 refine(D1 _ (HS.below (jX _ _ _))).mono ?_;rintro e w1 ⟨sa,cap,rfl,b4,e0,c9,d4⟩;simp only[yw] at b4;obtain⟨l0,l1,l2,l3,r0,r1⟩:=Fq b4;have i7:Hid _:=b4;have c6:Hid _:=l3;obtain⟨ob,oo,h7,b6⟩:=TL.out _ _ e0;subst h7;have d8:Hid (aG w1 (some ⟨ob,oo+1,none⟩) (bE S k).tail):=b6;clear b4 l3 e0 b6
 go_wp2_with fail
 refine(D2 _ (HQ.below c6)).mono ?_;rintro e w2 ⟨rfl,a9⟩;have i8:=a9.size;have J:Hid (Bl w w2):=c6.trans (a9.mono c6.size);have e7:Hid (aG w2 (some ⟨ob,oo+1,none⟩) (bE S k).tail):=d8.below a9;have b0:=(a9.cell (yi _ _ l0)).trans l0;have b1:=yi _ _ b0;have b9:Hid (w.heap.size<w2.heap.size):=b1;clear a9 l0 l1 l2 r0 r1 d8;by_cases g0:cap=1
 ·subst g0;have e1:T=0:=oaa
  have e2:(bE S k).tail=[]:=List.length_eq_zero_iff.1 (by rw[d9.out];exact e1);have e8:Hid _:=e2;clear e2 c9 d4;have HT:Hid (aG w2 (some ⟨ob,oo,none⟩) (bE S k).tail):=(show Hid _ by rw[e8.out];exact(fun i hi=>absurd hi (yB _)))
  go_wp2
  go_loopg [11,31] T (fun g1 s11 s31 wr=>∃ (j:Nat),j<=T/\T-j<=g1/\s31=.int .i64 j/\Hid (Bl w2 wr)/\wr.cell? ⟨w.heap.size,0,none⟩=some (.slice a n c)/\w.heap.size<wr.heap.size/\Hid (wr.ownsRow w2.heap.size 3 1 s11 (((bE S k).tail.take j).filter (fun p=>gY S p q)).length ((((bE S k).tail.take j).filter (fun p=>gY S p q)).map (Value.int .i64))))
  case atStart=>exact⟨0,oaa,oaa,rfl,yv _ _,b0,b1,World.ownsRow_nil _ _ _ _⟩
  case round =>
   obtain⟨j,hj,g8,rfl,U,hc,g7,a5⟩:=hrel;clear b0 b1;obtain⟨pa,pc,hv,F,M⟩:=uI a5.out;have HI:Hid _:=F
   have HK:Hid (∀ x:Addr,pa=some x->w.heap.size<=x.block):=fun x hx=>by
    have h1:=(M x.block (by rw[hv,hx];rfl)).1;have h2:w.heap.size<w2.heap.size:=b9.out;omega
   clear F M;by_cases d6:j<T
   ·exact absurd d6 oaa
   ·have d5:j=T:=oaa;subst d5
    have FR:Hid (R=((bE S k).tail.take j).filter (fun p=>gY S p q)):=by
     show _=_;rw[FE.out]
    have O:=FL.out j;rw[<- FR.out] at hv HI O;have b8:Hid (Bl w wr):=J.trans (U.mono J.size);rw[hv];clear hv;generalize a8:R.length=RL at O |-;have a6:Hid _:=a8;clear a8
    go_wp2
    go_ret2
    exact⟨pa,pc,by rw[a6.out];rfl,b8.out,HI.out,by rw[a6.out];exact O,HK.out⟩
 ·have g5:(1:Int)<=(cap:Int):=oaa
  have g6:¬ ((cap:Int)=1):=oaa
  have HT:Hid (aG w2 (some ⟨ob,oo+1,none⟩) (bE S k).tail):=e7
  go_wp2
  go_loopg [11,31] T (fun g1 s11 s31 wr=>∃ (j:Nat),j<=T/\T-j<=g1/\s31=.int .i64 j/\Hid (Bl w2 wr)/\wr.cell? ⟨w.heap.size,0,none⟩=some (.slice a n c)/\w.heap.size<wr.heap.size/\Hid (wr.ownsRow w2.heap.size 3 1 s11 (((bE S k).tail.take j).filter (fun p=>gY S p q)).length ((((bE S k).tail.take j).filter (fun p=>gY S p q)).map (Value.int .i64))))
  case atStart=>exact⟨0,oaa,oaa,rfl,yv _ _,b0,b1,World.ownsRow_nil _ _ _ _⟩
  case round =>
   obtain⟨j,hj,g8,rfl,U,hc,g7,a5⟩:=hrel;clear b0 b1;obtain⟨pa,pc,hv,F,M⟩:=uI a5.out;have HI:Hid _:=F
   have HK:Hid (∀ x:Addr,pa=some x->w.heap.size<=x.block):=fun x hx=>by
    have h1:=(M x.block (by rw[hv,hx];rfl)).1;have h2:w.heap.size<w2.heap.size:=b9.out;omega
   clear F M;by_cases d6:j<T
   ·have i4:(j:Int)<(T:Int):=oaa;obtain⟨tb,j0,ee,tc⟩:=(HT.below U) j (by rw[d9.out];exact d6);cases ee;obtain⟨p,hp,h4⟩:=d7.out j oaa;have i9:=yi _ _ tc;have FJ:=FT.out j oaa;rw[hp] at tc FJ;have D:Hid _:=D3.out p wr h4 (HS.below (J.trans (U.mono J.size))) (HQ.below (J.trans (U.mono J.size)));have b3:Hid _:=FJ;have i6:=FL.out j;clear FJ hp;generalize hA:((bE S k).tail.take j).filter (fun p=>gY S p q)=A at *;have HA:Hid _:=hA;clear hA
    cases hso:gY S p q with
    | false =>
     rw[hso] at D b3
     have F2:Hid (((bE S k).tail.take (j+1)).filter (fun p=>gY S p q)=A):=by
      show _=_;rw[b3.out];simp
     clear hso hv
     go_wp2_with fail
     refine yj D.out ?_;rintro e w3 ⟨rfl,E⟩;have c8:=(E.cell (yi _ _ hc)).trans hc;have Z:Hid (Bl w2 w3):=U.trans (E.mono U.size)
     have a7:Hid (w3.ownsRow w2.heap.size 3 1 u11 A.length (A.map (Value.int .i64))):=a5.kept (row:=none) ⟨E.os,E.tape,E.output,E.size,fun k hk _=>E.block k hk⟩ (by
      cases hv:u11.ownBlock with
      | none=>exact Or.inl rfl
      | some k=>exact Or.inr (fun e=>by cases e))
     have i2:=E.size;clear E
     go_wp2
     go_roundg (T-(j+1))
     case measure=>omega
     case rel=>exact⟨j+1,oaa,oaa,by go_num,Z,c8,oaa,by rw[F2.out];exact a7⟩
    | true =>
     rw[hso] at D b3
     have F2:Hid (((bE S k).tail.take (j+1)).filter (fun p=>gY S p q)=A++[(p:Int)]):=by
      show _=_;rw[b3.out];simp
     clear hso hv
     go_wp2_with fail
     refine yj D.out ?_;rintro e w3 ⟨rfl,E⟩;have c8:=(E.cell (yi _ _ hc)).trans hc;have Z:Hid (Bl w2 w3):=U.trans (E.mono U.size)
     have a7:Hid (w3.ownsRow w2.heap.size 3 1 u11 A.length (A.map (Value.int .i64))):=a5.kept (row:=none) ⟨E.os,E.tape,E.output,E.size,fun k hk _=>E.block k hk⟩ (by
      cases hv:u11.ownBlock with
      | none=>exact Or.inl rfl
      | some k=>exact Or.inr (fun e=>by cases e))
     have i2:=E.size;have i5:=U.size;have i3:w.heap.size<w3.heap.size:=oaa;clear E
     go_wp2_with (at_builtin;refine wpList_append_own _ rfl _ _ 48 rfl w2.heap.size 3 i0 (.int .i64 0) 1 8 underlying48 g9 h8 h9 i1 rfl oae _ _ _ rfl (a7.alloc _) ⟨w3.heap.size,0,none⟩ 1 1 [.int .i64 (p:Int)] rfl rfl ?c1 ?c2 ?c3 ?c4 ?c5 ?_)
     case c1 =>
      intro i u hi
      match i,hi with
      | 0,hi=>simp at hi;subst hi;simp[Addr.add]
     case c2=>intro u hu;simp at hu;subst hu;rfl
     case c3=>unfold maxLen;omega
     case c4=>omega
     case c5=>simp;omega
     intro v' w4 b2 I _;have e6:Hid (Bl w2 w4):=(Z.alloc Z.size _).grown I (by simp;have:=Z.size;omega) (fun k hk=>(a7.lt k hk).1)
     have g4:w4.cell? ⟨w.heap.size,0,none⟩=some (.slice a n c):=by
      have h1:=nO c8 (.cells #[.int .i64 (p:Int)] 3);exact(yE (I.block _ oab (fun e=>by have h5:w2.heap.size<=w.heap.size:=(a7.lt _ e.symm).1;have h6:w.heap.size<w2.heap.size:=b9.out;omega))).trans h1
     have e3:w.heap.size<w4.heap.size:=by have:=I.size;simp at this;omega
     have e9:Hid (w4.ownsRow w2.heap.size 3 1 v' (A++[(p:Int)]).length ((A++[(p:Int)]).map (Value.int .i64))):=by
      show _;rw[List.length_append,List.map_append];exact b2
     clear b2 I
     go_wp2
     go_roundg (T-(j+1))
     case measure=>omega
     case rel=>exact⟨j+1,oaa,oaa,by go_num,e6,g4,e3,by rw[F2.out];exact e9⟩
   ·have d5:j=T:=oaa;subst d5
    have FR:Hid (R=((bE S k).tail.take j).filter (fun p=>gY S p q)):=by
     show _=_;rw[FE.out]
    have O:=FL.out j;rw[<- FR.out] at hv HI O;have b8:Hid (Bl w wr):=J.trans (U.mono J.size);rw[hv];clear hv;generalize a8:R.length=RL at O |-;have a6:Hid _:=a8;clear a8
    go_wp2
    go_ret2
    exact⟨pa,pc,by rw[a6.out];rfl,b8.out,HI.out,by rw[a6.out];exact O,HK.out⟩
def uN(w:Wd)(b o:Nat)(x:Cl):Prop :=
 w.cell? ⟨b,o,none⟩=some (.int .i64 x.n)/\∃ ka kc,w.cell? ⟨b,o+1,none⟩=some (.slice ka x.ks.length kc)/\aG w ka x.ks
theorem uN.below{b o:Nat}{x:Cl}(h:uN w b o x)(hb:Bl w w'):uN w' b o x:=by
 obtain⟨c0,ka,kc,c1,D⟩:=h;exact⟨aA c0 hb,ka,kc,aA c1 hb,D.below hb⟩
def aO(w:Wd)(a:OA)(G:List Cl):Prop :=
 ∀ i,i<G.length->∃ b o,a=some ⟨b,o,none⟩/\uN w b (o+i*2) (cl G i)
theorem aO.below(h:aO w a G)(hb:Bl w w'):aO w' a G:=fun i hi=>by
 obtain⟨b,o,e,hn⟩:=h i hi;exact⟨b,o,e,hn.below hb⟩
def fK(G:List Cl):Prop:=∀ i,i<G.length->(cl G i).ks.length<=9223372036854775807
def bF(G:List Cl):Int:=if 24<G.length then 1 else cellsE G.length G
theorem Ie(x:Int)(m b:Nat)(w:Wd)(D:m<=24)(hc:w.cell? ⟨b,0,none⟩=some (.int .i64 (m:Int))) :
  yO 131 #[.int .i64 x,.pointer (some ⟨b,0,none⟩)] w fun e w' => e=.returned (.bool (!decide (0<=x/\x<=(m:Int)-1)))/\w' = w:=by
 have hw:=gU x 0 ((m:Int)-1);generalize decide (0<=x/\x<=(m:Int)-1)=r at hw
 go_enter func131,ntmps131
 go_wp2_with (go_at_call 66;refine(hw _).mono ?_;rintro e w' ⟨rfl,rfl⟩)
 go_ret;exact⟨rfl,rfl⟩
theorem Ig(x:Cl)(ka:OA)(kc m:Nat)(w:Wd)(hm:m<=24)(E:x.ks.length<=9223372036854775807)(D:aG w ka x.ks) :
  yO 97 #[.agg #[.int .i64 x.n,.slice ka x.ks.length kc],.int .i64 (m:Int)] w fun e w' => e=.returned (.int .i64 (iF m x))/\Below w.heap.size w w' := by
 unfold iF;by_cases h1:x.n < -1000000\/1000000<x.n
 ·rw[ye h1];have hw:=fun W=>zX x.n (-1000000) 1000000 W h1;clear D h1;generalize x.ks.length=l at *;generalize x.n=U at *
  go_enter func97,ntmps97
  go_wp2_with (go_at_call 66;refine(hw _).mono ?_;rintro e w' ⟨rfl,rfl⟩)
  go_ret;exact⟨rfl,aM _ _ _⟩
 ·rw[yd h1];have hw:=fun W=>wH x.n (-1000000) 1000000 W oaa oaa;by_cases I:8<x.ks.length
  ·rw[ye I];clear D h1;generalize x.ks.length=l at *;generalize x.n=U at *;have h3:(8:Int)<(l:Int):=oaa
   go_enter func97,ntmps97
   go_wp2_with (go_at_call 66;refine(hw _).mono ?_;rintro e w' ⟨rfl,rfl⟩)
   go_ret;exact⟨rfl,aM _ _ _⟩
  ·rw[yd I]
   have O:∀ w1:World,w1.cell? ⟨w.heap.size+1,0,none⟩=some (.int .i64 (m:Int))->wG 131 #[.pointer (some ⟨w.heap.size+1,0,none⟩)] (fun k=>!decide (0<=k/\k<=(m:Int)-1)) w1:=fun w1 h1 y w2 J =>
    (Ie y m (w.heap.size+1) w2 hm (aA h1 J)).mono (fun e w3 h=>⟨h.1,by rw[h.2];exact yv _ _⟩)
   have d3:=fun(W:Wd) (hk:aG W ka x.ks) (hc:W.cell? ⟨w.heap.size+1,0,none⟩=some (.int .i64 (m:Int)))=>PG 131 #[.pointer (some ⟨w.heap.size+1,0,none⟩)] (fun k=>!decide (0<=k/\k<=(m:Int)-1)) ka kc x.ks W E hk (yM func131 oad rfl) (O W hc);have K2:Hid (∀ F T,aG ((w.alloc F).alloc T) ka x.ks):=fun F T=>D.below (aM _ _ _);have M:Hid _:=d3;have Z:Hid (∀ F,((w.alloc F).alloc (.cells #[.int .i64 (m:Int)] 3)).cell? ⟨w.heap.size+1,0,none⟩=some (.int .i64 (m:Int))):=fun F=>fF w _ _ 0 _ rfl;clear D O d3 h1;generalize (x.ks.any fun k=>!decide (0<=k/\k<=(m:Int)-1))=b3 at *;obtain⟨l,hl⟩:∃ l,x.ks.length=l:=⟨_,rfl⟩;rw[hl] at M I E |-;clear hl;generalize x.n=U at *;have h3:¬ (8:Int)<(l:Int):=oaa;cases b3
   all_goals
    go_enter func97,ntmps97
    go_wp2_with (first|(go_at_call 66;refine(hw _).mono ?_;rintro e w' ⟨rfl,rfl⟩)|(go_at_call 132;refine(M _ (K2 _ _) (Z _)).mono ?_;rintro e w' ⟨rfl,hb⟩))
    go_ret;exact⟨rfl,(aM _ _ _).trans (hb.mono oab)⟩
theorem Ih{k:Nat}(h:k<G.length):G.drop k=cl G k :: G.drop (k+1):=by
 rw[kC h];exact List.drop_eq_getElem_cons h
theorem CE(a:OA)(c:Nat)(G:List Cl)(w:Wd)(hN:G.length<=9223372036854775807)(hB:fK G)(hS:aO w a G) :
  yO 64 #[.agg #[.slice a G.length c]] w fun e w' => e=.returned (.int .i64 (bF G))/\Below w.heap.size w w' := by
 unfold bF;by_cases F:24<G.length
 ·rw[ye F];generalize G.length=n at *;clear hS hB;have M:(24:Int)<(n:Int):=oaa
  go_enter func64,ntmps64
  go_wp2
  go_ret;exact⟨rfl,aB _ _⟩
 ·rw[yd F];have HS:Hid (aO w a G):=hS;have Z:Hid (∀ i,i<G.length->∀ ka kc W,aG W ka (cl G i).ks->Calls _ _ _ _ _):=fun i hi ka kc W hW=>Ig (cl G i) ka kc G.length W oaa (hB i hi) hW;have DR:Hid (∀ k,k<G.length->G.drop k=cl G k :: G.drop (k+1)):=fun k hk=>Ih hk;have DN:Hid (G.drop G.length=[]):=List.drop_length;have E0:Hid (cellsE G.length G=cellsE G.length (G.drop 0)):=rfl;clear hS hB;obtain⟨E,hR⟩:∃ r,cellsE G.length G=r:=⟨_,rfl⟩;rw[hR] at E0 |-;clear hR;obtain⟨n,hn⟩:∃ n,G.length=n:=⟨_,rfl⟩;have HN:Hid (G.length=n):=hn;rw[hn] at hN F Z DR DN E0 |-;clear hn;have M:¬ (24:Int)<(n:Int):=oaa
  go_enter func64,ntmps64
  go_wp2_with fail
  go_loopg [13] n (fun g s13 wr=>∃ k:Nat,k<=n/\n-k<=g/\s13=.int .i64 k/\Hid (Bl w wr)/\wr.cell? ⟨w.heap.size,0,none⟩=some (.slice a n c)/\Hid (E=cellsE n (G.drop k)))
  case atStart=>exact⟨0,oaa,oaa,rfl,aB _ _,oaf,E0⟩
  case round =>
   obtain⟨k,hk,hg,rfl,HB,lb,A⟩:=hrel;have b0:=yi _ _ lb;by_cases O:k<n
   ·have a9:(k:Int)<(n:Int):=oaa;obtain⟨b,o,rfl,c0,ka,kc,c1,a6⟩:=(HS.below HB) k (by rw[HN.out];exact O);have I:Hid _:=fun W hW=>Z.out k O ka kc W hW;have KS:Hid (∀ o1,aG (wr.alloc o1) ka (cl G k).ks):=fun o1=>a6.below (aB _ _)
    have T:Hid (E=if iF n (cl G k)=0 then cellsE n (G.drop (k+1)) else iF n (cl G k)):=by
     show _=_;rw[A.out,DR.out k O];rfl
    clear a6 A;generalize cl G k=x at *;obtain⟨xn,a7⟩:=x;dsimp only at c0 c1;obtain⟨ev,a5⟩:∃ z,iF n ⟨xn,a7⟩=z:=⟨_,rfl⟩;rw[a5] at I T;obtain⟨l,hl⟩:∃ z,a7.length=z:=⟨_,rfl⟩;dsimp only at I;rw[hl] at I c1;clear a5 hl
    go_wp2_with fail
    refine yj (I _ (KS _)) ?_;rintro e w1 ⟨rfl,hb⟩;have J:Bl wr w1:=(aB _ _).trans (hb.mono oac);have U:Hid (Bl w w1):=HB.trans (J.mono HB.size);have a8:=aA lb J;clear hb J lb;by_cases hz:ev=0
    ·subst hz;have D:Hid (E=cellsE n (G.drop (k+1))):=(by show _=_;rw[T.out,ye rfl]);clear T
     go_wp2_with fail
     go_roundg (n-(k+1))
     case measure=>omega
     case rel=>exact⟨k+1,oaa,oaa,by go_num,U,a8,D⟩
    ·have b1:(ev == 0)=false:=(by simp[hz]);have b2:decide (ev=0)=false:=yH hz;have D:Hid (E=ev):=(by show _=_;rw[T.out,yd hz]);clear T
     go_wp2_with fail
     go_ret;exact⟨by rw[D.out];rfl,U.out⟩
   ·have:k=n:=oaa;subst this;have D:Hid (E=0):=(by show _=_;rw[A.out,DN.out];rfl);clear A
    go_wp2_with fail
    go_ret;exact⟨by rw[D.out];rfl,HB.out⟩
theorem TW(x y:Cl):x=y↔(x.n=y.n/\x.ks=y.ks):=by
 constructor
 ·rintro rfl;exact⟨rfl,rfl⟩
 ·obtain⟨a,b⟩:=x;obtain⟨c,d⟩:=y;rintro⟨rfl,rfl⟩;rfl
def CG(K:Nat):Prop:=∀ (x y:Cl) (ka D:OA) (kc E:Nat) (W:Wd),x.ks.length<=9223372036854775807->aG W ka x.ks->aG W D y.ks ->
 yO K #[.agg #[.int .i64 x.n,.slice ka x.ks.length kc],.agg #[.int .i64 y.n,.slice D y.ks.length E]] W fun e w' => ∃ r:Bool,e=.returned (.bool r)/\Below W.heap.size W w' /\(r=true↔x=y)
theorem TY(K:Nat)(eg:∀ args w,(callFunc K args).run prog w=.ok (.enter K args) w)(hK:CG K)(a Z:OA)(c c' : Nat)(S D:List Cl)(w:Wd)(hN:S.length<=9223372036854775807)(hB:fK S)(h1:aO w a S)(h2:aO w Z D) :
  yO 45 #[.slice a S.length c,.slice Z D.length c', .func (.func K) #[] #[]] w fun e w' => ∃ r:Bool,e=.returned (.bool r)/\Below w.heap.size w w' /\(r=true↔S=D):=by
 by_cases hl:S.length=D.length
 ·have E1:Hid ((∀ i,i<S.length->cl S i=cl D i)->S=D):=fun h=>Ht hl h;have E2:Hid (∀ i,cl S i≠cl D i->S≠D):=fun i h e=>h (by rw[e]);have H1:Hid (aO w a S):=h1;have H2:Hid (aO w Z D):=h2;have HB:Hid (fK S):=hB;have HK:Hid (CG K):=hK;have HL:Hid (D.length=S.length):=hl.symm;rw[<- hl];clear h1 h2 hB hl hK;generalize hn:S.length=n at *;have HN:Hid _:=hn;clear hn
  go_enter func45,ntmps45
  go_wp2
  go_loopg [17] n (fun g s17 wr=>∃ k:Nat,k<=n/\n-k<=g/\s17=.int .i64 k/\Below w.heap.size w wr/\Hid (∀ i,i<k->cl S i=cl D i))
  case atStart=>exact⟨0,oaa,oaa,rfl,yv _ _,fun i hi=>oaa⟩
  case round =>
   obtain⟨k,hk,hg,rfl,hb,A⟩:=hrel;by_cases E:k<n
   ·have a8:(k:Int)<(n:Int):=oaa;obtain⟨b,o,rfl,c0,ka,kc,c5,I⟩:=(H1.below hb) k (by rw[HN.out];exact E);obtain⟨b', o', rfl,e0,a5,a6,e5,J⟩:=(H2.below hb) k (by rw[HL.out];exact E);have a9:=yi _ _ c0;have a7:=yi _ _ e0;have d1:=fun o1 o2=>HK.out (cl S k) (cl D k) ka a5 kc a6 ((wr.alloc o1).alloc o2) (HB k (by rw[HN.out];exact E)) (I.below (aM _ _ _)) (J.below (aM _ _ _));have O:Hid _:=E2.out k
    have KK:Hid (cl S k=cl D k->∀ i,i<k+1->cl S i=cl D i):=fun h i hi=>by
     by_cases e:i=k
     ·subst e;exact h
     ·exact A.out i oaa
    clear I J;have D1:Hid _:=d1;clear d1;generalize cl S k=x at *;generalize cl D k=y at *
    go_wp2_with fail
    refine(D1 _ _).mono ?_;rintro e w3 ⟨r,rfl,F,M⟩
    cases r with
    | true =>
     have U:Hid _:=M.1 rfl;clear M
     go_wp2
     go_roundg (n-(k+1))
     case measure=>omega
     case rel=>exact⟨k+1,oaa,oaa,by go_num,(hb.trans ((aM _ _ _).mono hb.size)).trans (F.mono (by simp;have:=hb.size;omega)),KK.out U.out⟩
    | false =>
     have U:Hid (S≠D):=O.out fun e=>by have:=M.2 e;cases this
     clear M
     go_wp2
     go_ret;exact⟨false,rfl,(hb.trans ((aM _ _ _).mono hb.size)).trans (F.mono (by simp;have:=hb.size;omega)),⟨fun h=>oah,fun h=>absurd h U.out⟩⟩
   ·have:k=n:=oaa;subst this
    go_wp2
    go_ret;exact⟨true,rfl,hb,⟨fun _=>E1.out A.out,fun _=>rfl⟩⟩
 ·have b0:¬ ((S.length:Int)=(D.length:Int)):=oaa
  have T:Hid (S≠D):=fun e=>hl (by rw[e]);clear h1 h2 hB hK;generalize S.length=n at *;generalize D.length=n' at *
  go_enter func45,ntmps45
  go_wp2
  go_ret;exact⟨false,rfl,yv _ _,⟨fun h=>oah,fun h=>absurd h T.out⟩⟩
theorem Ii:CG 46:=by
 intro x y ka U kc a5 W M h1 h2;have F:Hid (x=y↔(x.n=y.n/\x.ks=y.ks)):=TW x y;have d:=fun(w' : World) (i1:aG w' ka x.ks) (i2:aG w' U y.ks)=>wI ka U kc a5 x.ks y.ks w' M i1 i2;have D:Hid _:=d;have I1:Hid (∀ o1 o2,aG ((W.alloc o1).alloc o2) ka x.ks):=fun o1 o2=>h1.below (aM _ _ _);have I2:Hid (∀ o1 o2,aG ((W.alloc o1).alloc o2) U y.ks):=fun o1 o2=>h2.below (aM _ _ _);clear h1 h2 d;obtain⟨xn,I⟩:=x;obtain⟨yn,J⟩:=y;dsimp only at F D I1 I2 |-;obtain⟨xl,O⟩:∃ z,I.length=z:=⟨_,rfl⟩;obtain⟨yl,T⟩:∃ z,J.length=z:=⟨_,rfl⟩;rw[O,T] at D;rw[O,T];clear O T M;by_cases he:xn=yn
 ·have E:Hid ((⟨xn,I⟩:Cl)=⟨yn,J⟩↔I=J):=by show _↔_;rw[F.out];simp[he]
  subst he;clear F
  go_enter func46,ntmps46
  go_wp2_with fail
  refine yj (D _ (I1 _ _) (I2 _ _)) ?_;rintro e w1 ⟨rfl,hb⟩;have HB:Hid (Bl W w1):=(aM _ _ _).trans (hb.mono oab);clear hb;by_cases Z:I=J
  ·have HR:Hid _:=E.out.2 Z;rw[yI Z];clear Z E
   go_wp2
   go_ret;exact⟨true,rfl,HB.out,⟨fun _=>HR.out,fun _=>rfl⟩⟩
  ·have HR:Hid _:=fun h=>Z (E.out.1 h);rw[yH Z];clear Z E
   go_wp2
   go_ret;exact⟨false,rfl,HB.out,⟨fun h=>oah,fun h=>absurd h HR.out⟩⟩
 ·have hd:decide (xn=yn)=false:=yH he;have a6:(xn == yn)=false:=by simp[he]
  have HR:Hid (¬ (⟨xn,I⟩:Cl)=⟨yn,J⟩):=fun h=>he (F.out.1 h).1;clear F
  go_enter func46,ntmps46
  go_wp2_with fail
  go_ret;exact⟨false,rfl,aM _ _ _,⟨fun h=>oah,fun h=>absurd h HR.out⟩⟩
theorem Ij(a E:OA)(c F:Nat)(S D:List Cl)(w:Wd)(U:S.length<=9223372036854775807)(J:fK S)(h1:aO w a S)(I:aO w E D) :
  yO 15 #[.agg #[.slice a S.length c],.agg #[.slice E D.length F]] w fun e w' => ∃ r:Bool,e=.returned (.bool r)/\Below w.heap.size w w' /\(r=true↔S=D):=by
 have O:Hid _:=fun Z o2=>TY 46 (yM func46 oad rfl) Ii a E c F S D ((w.alloc Z).alloc o2) U J (h1.below (aM _ _ _)) (I.below (aM _ _ _));clear h1 I J;generalize S.length=n at *;generalize D.length=n' at *
 go_enter func15,ntmps15
 go_wp2_with (go_at_call 45;refine(O _ _).mono ?_;rintro e w1 ⟨r,rfl,hb,M⟩;have T:Hid _:=M;clear M)
 go_ret;exact⟨r,rfl,(aM _ _ _).trans (hb.mono oab),T.out⟩
theorem Ik:CG 88:=by
 intro x y ka U kc a5 W M h1 h2;have F:Hid (x=y↔(x.n=y.n/\x.ks=y.ks)):=TW x y;have d:=fun(w' : World) (i1:aG w' ka x.ks) (i2:aG w' U y.ks)=>wI ka U kc a5 x.ks y.ks w' M i1 i2;have D:Hid _:=d;have I1:Hid (∀ o1 o2,aG ((W.alloc o1).alloc o2) ka x.ks):=fun o1 o2=>h1.below (aM _ _ _);have I2:Hid (∀ o1 o2,aG ((W.alloc o1).alloc o2) U y.ks):=fun o1 o2=>h2.below (aM _ _ _);clear h1 h2 d;obtain⟨xn,I⟩:=x;obtain⟨yn,J⟩:=y;dsimp only at F D I1 I2 |-;obtain⟨xl,O⟩:∃ z,I.length=z:=⟨_,rfl⟩;obtain⟨yl,T⟩:∃ z,J.length=z:=⟨_,rfl⟩;rw[O,T] at D;rw[O,T];clear O T M;by_cases he:xn=yn
 ·have E:Hid ((⟨xn,I⟩:Cl)=⟨yn,J⟩↔I=J):=by show _↔_;rw[F.out];simp[he]
  subst he;clear F
  go_enter func88,ntmps88
  go_wp2_with fail
  refine yj (D _ (I1 _ _) (I2 _ _)) ?_;rintro e w1 ⟨rfl,hb⟩;have HB:Hid (Bl W w1):=(aM _ _ _).trans (hb.mono oab);clear hb;by_cases Z:I=J
  ·have HR:Hid _:=E.out.2 Z;rw[yI Z];clear Z E
   go_wp2
   go_ret;exact⟨true,rfl,HB.out,⟨fun _=>HR.out,fun _=>rfl⟩⟩
  ·have HR:Hid _:=fun h=>Z (E.out.1 h);rw[yH Z];clear Z E
   go_wp2
   go_ret;exact⟨false,rfl,HB.out,⟨fun h=>oah,fun h=>absurd h HR.out⟩⟩
 ·have hd:decide (xn=yn)=false:=yH he;have a6:(xn == yn)=false:=by simp[he]
  have HR:Hid (¬ (⟨xn,I⟩:Cl)=⟨yn,J⟩):=fun h=>he (F.out.1 h).1;clear F
  go_enter func88,ntmps88
  go_wp2_with fail
  go_ret;exact⟨false,rfl,aM _ _ _,⟨fun h=>oah,fun h=>absurd h HR.out⟩⟩
theorem TZ(a E:OA)(c F:Nat)(S D:List Cl)(w:Wd)(U:S.length<=9223372036854775807)(J:fK S)(h1:aO w a S)(I:aO w E D) :
  yO 52 #[.agg #[.slice a S.length c],.agg #[.slice E D.length F]] w fun e w' => ∃ r:Bool,e=.returned (.bool r)/\Below w.heap.size w w' /\(r=true↔S=D):=by
 have O:Hid _:=fun Z o2=>TY 88 (yM func88 oad rfl) Ik a E c F S D ((w.alloc Z).alloc o2) U J (h1.below (aM _ _ _)) (I.below (aM _ _ _));clear h1 I J;generalize S.length=n at *;generalize D.length=n' at *
 go_enter func52,ntmps52
 go_wp2_with (go_at_call 45;refine(O _ _).mono ?_;rintro e w1 ⟨r,rfl,hb,M⟩;have T:Hid _:=M;clear M)
 go_ret;exact⟨r,rfl,(aM _ _ _).trans (hb.mono oab),T.out⟩
