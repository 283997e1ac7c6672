/-
  x
-/
import Derived.Test.YtcbcpomacdngmaaGreatA35
namespace Go.Proofs.YtcbcpomacdngmaaGreat
set_option maxRecDepth 100000
set_option maxHeartbeats 4000000
set_option linter.unusedVariables false
open Go.RowKit Go.ChangeShapes Go.WideShapes Tryz
variable{R:Rl}{w:Wd}{a:OA}{q:List Ml}{i G:Nat}{b k:Int}{x:Ac}
def gA(w:Wd)(a:OA)(i:Nat):OA:=match a with
 | some D=>(match w.cell? ⟨D.block,D.off+i*2+1,none⟩ with|some (.slice x _ _)=>x | _=>none)
 | none=>none
def gC(w:Wd)(a:OA)(i:Nat):Nat:=match a with
 | some D=>(match w.cell? ⟨D.block,D.off+i*2+1,none⟩ with|some (.slice _ _ c)=>c | _=>0)
 | none=>0
theorem XV(h:gX w a q)(hi:i<q.length):∃ b o,a=some ⟨b,o,none⟩/\w.cell? ⟨b,o+i*2,none⟩=some (.int .i64 (ml q i).f)/\w.cell? ⟨b,o+i*2+1,none⟩=some (.slice (gA w a i) (ml q i).g.length (gC w a i)):=by
 obtain⟨b,o,ga,gc,rfl,c0,c1,_⟩:=h i hi;exact⟨b,o,rfl,c0,by unfold gA gC;dsimp only;rw[c1]⟩
theorem XW(h:gX w a q)(hi:i<q.length):aO w (gA w a i) (ml q i).g:=by
 obtain⟨b,o,ga,gc,rfl,c0,c1,hg⟩:=h i hi;unfold gA;dsimp only;rw[c1];exact hg
theorem Sl(m:Ml)(ga:OA)(gc n M:Nat)(w:Wd)(hn:n<=9223372036854775807)(hc:w.cell? ⟨M,0,none⟩=some (.int .i64 (n:Int)))(h1:m.g.length<=9223372036854775807)(O:fK m.g)(T:aO w ga m.g) :
  yO 65 #[.agg #[.int .i64 m.f,.slice ga m.g.length gc],.pointer (some ⟨M,0,none⟩)] w fun e w' => e=.returned (.int .i64 (nK n m))/\Below w.heap.size w w' := by
 obtain⟨f,g⟩:=m;dsimp only at h1 O T |-;have D:Hid (∀ W,Bl w W->Calls _ _ _ _ _):=fun W hW=>CE ga gc g W h1 O (T.below hW);obtain⟨Q,U⟩:∃ Q:Int,(n:Int)-1=Q:=⟨_,rfl⟩;have hq:IntKind.i64.wrap ((n:Int)-1)=Q:=by rw[yK];omega
 have J:Hid (∀ W,Calls _ _ _ _ _):=fun W=>gU f 0 Q W;have a5:M<w.heap.size:=yi _ _ hc;have E:nK n ⟨f,g⟩=if 0<=f/\f<=Q then bF g else 4:=by rw[<- U];rfl
 rw[E];clear E h1 O T U;generalize bF g=G at *;generalize g.length=l at *;by_cases h:0<=f/\f<=Q
 ·rw[ye h];rw[yI h] at J;clear h
  go_enter func65,ntmps65
  go_wp2_with (first|(go_at_call 66;refine(J _).mono ?_;rintro e w3 ⟨rfl,F⟩;subst F)|(go_at_call 64;refine(D _ (aB _ _)).mono ?_;rintro e w4 ⟨rfl,I⟩;have Z:Hid (Bl w w4):=(aB _ _).trans (I.mono oac);clear I))
  go_ret;exact⟨rfl,Z.out⟩
 ·rw[yd h];rw[yH h] at J;clear h
  go_enter func65,ntmps65
  go_wp2_with (go_at_call 66;refine(J _).mono ?_;rintro e w3 ⟨rfl,F⟩;subst F)
  go_ret;exact⟨rfl,aB _ _⟩
theorem Sn(q:List Ml)(qa:OA)(qc n J T:Nat)(w:Wd)(hn:n<=9223372036854775807)(hc:w.cell? ⟨J,0,none⟩=some (.int .i64 (n:Int)))(hd:w.cell? ⟨T,0,none⟩=some (.func (.func 65) #[] #[.pointer (some ⟨J,0,none⟩)]))(h1:q.length<=9223372036854775807)(M:∀ j,j<q.length->(ml q j).g.length<=9223372036854775807/\fK (ml q j).g)(O:gX w qa q) :
  yO 67 #[.slice qa q.length qc,.pointer (some ⟨T,0,none⟩)] w fun e w' => e=.returned (.int .i64 (dX n q))/\Below w.heap.size w w' := by
 have D:Hid (Calls _ _ _ _ _):=Sk 65 #[.pointer (some ⟨J,0,none⟩)] (yM func65 oad rfl) qa qc q.length (fun i=>⟨(ml q i).f,gA w qa i,(ml q i).g.length,gC w qa i⟩) (fun i=>nK n (ml q i)) w h1 (fun i hi=>XV O hi) (fun i hi W U=>Sl (ml q i) _ _ n J W hn (aA hc U) (M i hi).1 (M i hi).2 ((XW O hi).below U))
 have E:dX n q=if 16<q.length then 1 else aQ ((List.range q.length).map fun i=>nK n (ml q i)):=by
  unfold dX ml;rw[GH,XL]
 rw[E];clear E M O hc;generalize aQ ((List.range q.length).map fun i=>nK n (ml q i))=F at *;generalize q.length=l at *;by_cases h:16<l
 ·rw[ye h];have h' :(16:Int)<(l:Int):=oaa
  go_enter func67,ntmps67
  go_wp2
  go_ret;exact⟨rfl,yv _ _⟩
 ·rw[yd h];have h' : ¬ (16:Int)<(l:Int):=oaa
  go_enter func67,ntmps67
  go_wp2_with (go_at_call 68;refine D.mono ?_;rintro e w4 ⟨rfl,I⟩;have Z:Hid (Bl w w4):=I;clear I)
  go_ret;exact⟨rfl,Z.out⟩
theorem Sq(l:Nat)(pa:OA)(pc:Nat)(w:Wd):yO 34 #[.slice pa l pc] w fun e w' => e=.returned (.int .i64 (if 40<l then 1 else 0))/\Below w.heap.size w w' := by
 by_cases h:40<l
 ·rw[ye h];have D:(40:Int)<(l:Int):=oaa
  go_enter func34,ntmps34
  go_wp2
  go_ret;exact⟨rfl,yv _ _⟩
 ·rw[yd h];have D:¬ (40:Int)<(l:Int):=oaa
  go_enter func34,ntmps34
  go_wp2
  go_ret;exact⟨rfl,yv _ _⟩
theorem Sr(n:Int)(w:Wd):yO 36 #[.int .i64 n] w fun e w' => ∃ D E,e=.returned (.func (.func 67) #[] #[.pointer (some ⟨E,0,none⟩)])/\Below w.heap.size w w' /\ w'.cell? ⟨D,0,none⟩=some (.int .i64 n)/\w'.cell? ⟨E,0,none⟩=some (.func (.func 65) #[] #[.pointer (some ⟨D,0,none⟩)]):=by
 go_enter func36,ntmps36
 go_wp2
 go_ret;exact⟨w.heap.size,w.heap.size+1,rfl,aM _ _ _,fE _ _ _ 0 _ rfl,fF _ _ _ 0 _ rfl⟩
theorem GK(w:Wd)(t:Nat)(D v1 v2 E F:Value):(w.alloc (.cells #[D,v1,v2,E,F] t)).heap[w.heap.size]?=some (.cells #[D,v1,v2,E,F] t (0,0)):=yN _ _
theorem Tv{a c d e f:Int}:aQ [a,b,c,d,e,f]=if a=0 then (if b=0 then (if c=0 then (if d=0 then (if e=0 then (if f=0 then 0 else f) else e) else d) else c) else b) else a:=rfl
theorem Tw(e:Int):(if e=0 then 0 else e)=e:=by
 split
 ·omega
 ·rfl
theorem NI:zB:=fun A W w hB hC hW=>by
 obtain⟨a0,a1,a2,a3,a4,c0,c1,c2,c3,c4⟩:=A;obtain⟨fs,rs,ps,qs,pt⟩:=W;obtain⟨b3,⟨b4,a5⟩,⟨b5,b0⟩,⟨b6,J⟩,b7,a6⟩:=hB;dsimp only[wlV] at b3 b4 a5 b5 b0 b6 J b7 a6 |-;have D0:Hid (∀ V,Bl w V->Calls _ _ _ _ _):=fun V hV=>xY a0 c0 fs V b3 (hW.fs.below hV)
 have D1:Hid (∀ V,Bl w V->yO 31 #[.slice a1 rs.length c1,.func (.func 32) #[] #[]] V fun e w' => e=.returned (.int .i64 (lH rs))/\Below V.heap.size V w'):=fun V hV=>by
  obtain⟨f,hf⟩:=XQ (hW.rs.below hV);have e:lH rs=aQ ((List.range rs.length).map fun i=>bI (rl rs i)):=by unfold rl;rw[GH,XI]
  rw[e];exact Sg 32 #[] (yM func32 oad rfl) a1 c1 rs.length (fun i=>⟨(f i).a0,(rl rs i).s.length,(f i).c0,(f i).a1,(rl rs i).hs.length,(f i).c1,(f i).a2,(rl rs i).i.length,(f i).c2,(f i).a3,(rl rs i).t.length,(f i).c3⟩) (fun i=>bI (rl rs i)) V b4 (fun i hi=>(hf i hi).1) (fun i hi U hU=>zN (f i) (rl rs i) U (a5 i hi) ((hf i hi).2.below hU))
 have D2:Hid (∀ V,Bl w V->yO 33 #[.slice a2 ps.length c2,.func (.func 34) #[] #[]] V fun e w' => e=.returned (.int .i64 (lI ps))/\Below V.heap.size V w'):=fun V hV=>by
  obtain⟨f,hf⟩:=XT (hW.ps.below hV);have e:lI ps=aQ ((List.range ps.length).map fun i=>sO (pg ps i)):=by unfold pg;rw[GH,XJ]
  rw[e];exact Si 34 #[] (yM func34 oad rfl) a2 c2 ps.length (fun i=>⟨(f i).1,(pg ps i).length,(f i).2⟩) (fun i=>sO (pg ps i)) V b5 (fun i hi=>(hf i hi).1) (fun i hi U hU=>Sq _ _ _ U)
 have DM:Hid (∀ V,Calls _ _ _ _ _):=fun V=>Sr (fs.length:Int) V
 have D3:Hid (∀ V cb cc,Bl w V->V.cell? ⟨cb,0,none⟩=some (.int .i64 (fs.length:Int))->V.cell? ⟨cc,0,none⟩=some (.func (.func 65) #[] #[.pointer (some ⟨cb,0,none⟩)])->yO 35 #[.slice a3 qs.length c3,.func (.func 67) #[] #[.pointer (some ⟨cc,0,none⟩)]] V fun e w' => e=.returned (.int .i64 (lJ fs.length qs))/\Below V.heap.size V w'):=fun V cb cc hV a8 a9=>by
  obtain⟨f,hf⟩:=XU (hW.qs.below hV);have e:lJ fs.length qs=aQ ((List.range qs.length).map fun i=>dX fs.length (qu qs i)):=by unfold qu;rw[GH,XK]
  rw[e];exact Sj 67 #[.pointer (some ⟨cc,0,none⟩)] (yM func67 oad rfl) a3 c3 qs.length (fun i=>⟨(f i).1,(qu qs i).length,(f i).2⟩) (fun i=>dX fs.length (qu qs i)) V b6 (fun i hi=>(hf i hi).1) (fun i hi U hU=>Sn (qu qs i) _ _ fs.length cb cc U b3 (aA a8 hU) (aA a9 hU) (J i hi).1 (J i hi).2 ((hf i hi).2.below hU))
 have D4:Hid (∀ V,Bl w V->Calls _ _ _ _ _):=fun V hV=>NC a4 c4 pt (fs.length:Int) V b7 a6 hC.s4 (hW.pt.below hV)
 have E:fZ ⟨fs,rs,ps,qs,pt⟩=if bS fs=0 then (if (if rs.length=fs.length/\ps.length=fs.length/\qs.length=fs.length then (0:Int) else 3)=0 then (if lH rs=0 then (if lI ps=0 then (if lJ fs.length qs=0 then dK pt fs.length else lJ fs.length qs) else lI ps) else lH rs) else (if rs.length=fs.length/\ps.length=fs.length/\qs.length=fs.length then (0:Int) else 3)) else bS fs:=by
  unfold fZ;rw[Tv,Tw]
 rw[E];clear E hC hW a5 b0 J a6;generalize bS fs=E0 at *;generalize lH rs=E1 at *;generalize lI ps=E2 at *;generalize lJ fs.length qs=E3 at *;generalize dK pt fs.length=E4 at *;generalize fs.length=O at *;generalize rs.length=T at *;generalize ps.length=M at *;generalize qs.length=I at *;generalize pt.length=nt at *;obtain⟨F,hF⟩:∃ F:Int,(if E0=0 then (if (if T=O/\M=O/\I=O then (0:Int) else 3)=0 then (if E1=0 then (if E2=0 then (if E3=0 then E4 else E3) else E2) else E1) else (if T=O/\M=O/\I=O then (0:Int) else 3)) else E0)=F:=⟨_,rfl⟩;have D:Hid (_=F):=hF;rw[hF];clear hF
 go_enter func10,ntmps10
 go_wp2_with fail
 refine yj (D0 _ (aB _ _)) ?_;rintro e V0 ⟨rfl,hb⟩;have BV:Hid (Bl w V0):=(aB _ _).trans (hb.mono oac);have X0:Hid _:=aH (GK w 28 (.slice a0 O c0) (.slice a1 T c1) (.slice a2 M c2) (.slice a3 I c3) (.slice a4 nt c4)) hb;clear hb D0;obtain⟨l0,l1,l2,l3,l4,ll⟩:=jV X0.out;by_cases e0:E0=0;rotate_left
 ·rw[yd e0] at D;have hz:(E0 == 0)=false:=by simp[e0]
  go_wp2
  go_ret;exact⟨by rw[<- D.out];rfl,BV.out⟩
 subst e0;rw[ye rfl] at D;by_cases h1:T=O;rotate_left
 ·rw[show (if T=O/\M=O/\I=O then (0:Int) else 3)=3 from yd (fun h=>h1 h.1),yd oae] at D;have hz:((T:Int) ==(O:Int))=false:=oab
  go_wp2
  go_ret;exact⟨by rw[<- D.out];rfl,BV.out⟩
 subst h1;by_cases h2:M=T;rotate_left
 ·rw[show (if T=T/\M=T/\I=T then (0:Int) else 3)=3 from yd (fun h=>h2 h.2.1),yd oae] at D;have hz:((M:Int) ==(T:Int))=false:=oab
  go_wp2
  go_ret;exact⟨by rw[<- D.out];rfl,BV.out⟩
 subst h2;by_cases h3:I=M;rotate_left
 ·rw[show (if M=M/\M=M/\I=M then (0:Int) else 3)=3 from yd (fun h=>h3 h.2.2),yd oae] at D;have hz:((I:Int) ==(M:Int))=false:=oab
  go_wp2
  go_ret;exact⟨by rw[<- D.out];rfl,BV.out⟩
 subst h3;rw[show (if I=I/\I=I/\I=I then (0:Int) else 3)=0 from ye ⟨rfl,rfl,rfl⟩,ye rfl] at D
 go_wp2_with fail
 refine yj (D1 _ BV.out) ?_;rintro e V1 ⟨rfl,hb⟩;have Z:Hid (Bl w V1):=BV.trans (hb.mono BV.size);have X1:Hid _:=aH X0.out hb;clear hb D1 l0 l1 l2 l3 l4 ll X0;obtain⟨l0,l1,l2,l3,l4,ll⟩:=jV X1.out;by_cases e1:E1=0;rotate_left
 ·rw[yd e1] at D;have hz:(E1 == 0)=false:=by simp[e1]
  go_wp2
  go_ret;exact⟨by rw[<- D.out];rfl,Z.out⟩
 subst e1;rw[ye rfl] at D
 go_wp2_with fail
 refine yj (D2 _ Z.out) ?_;rintro e V2 ⟨rfl,hb⟩;have b1:Hid (Bl w V2):=Z.trans (hb.mono Z.size);have X2:Hid _:=aH X1.out hb;clear hb D2 l0 l1 l2 l3 l4 ll X1 Z BV;obtain⟨l0,l1,l2,l3,l4,ll⟩:=jV X2.out;by_cases e2:E2=0;rotate_left
 ·rw[yd e2] at D;have hz:(E2 == 0)=false:=by simp[e2]
  go_wp2
  go_ret;exact⟨by rw[<- D.out];rfl,b1.out⟩
 subst e2;rw[ye rfl] at D
 go_wp2_with fail
 go_region_held3 (fun b9=>b9.cell? ⟨w.heap.size,3,none⟩=some (.slice a3 I c3)) (go_keep) (first|(go_at_call 36;refine yj (DM V2.drew) ?_;rintro e V3 ⟨cb,cc,rfl,hb,a8,a9⟩;have b2:Hid (Bl w V3):=b1.drew.trans (hb.mono b1.size);have X3:Hid _:=aH (W:=V2.drew) X2.out hb;have CB:Hid _:=a8;have CC:Hid _:=a9;clear hb a8 a9;obtain⟨m0,m1,m2,m3,m4,mm⟩:=jV X3.out)|(go_at_call 35;refine yj (D3 V3 cb cc b2.out CB.out CC.out) ?_;rintro e V4 ⟨rfl,hb⟩;have a7:Hid (Bl w V4):=b2.trans (hb.mono b2.size);have X4:Hid _:=aH X3.out hb;clear hb;obtain⟨n0,n1,n2,n3,n4,nn⟩:=jV X4.out))
 clear l0 l1 l2 l3 l4 ll m0 m1 m2 m3 m4 mm D3 DM;by_cases e3:E3=0;rotate_left
 ·rw[yd e3] at D;have hz:(E3 == 0)=false:=by simp[e3]
  go_wp2
  go_ret;exact⟨by rw[<- D.out];rfl,a7.out⟩
 subst e3;rw[ye rfl] at D
 go_wp2_with (go_at_call 37;refine yj (D4 _ a7.out) ?_;rintro e V5 ⟨rfl,hb⟩;have b8:Hid (Bl w V5):=a7.trans (hb.mono a7.size);clear hb)
 go_ret;exact⟨by rw[<- D.out];rfl,b8.out⟩
theorem Ux(A:RA)(R:Rl)(x:Ac)(E:Int)(w:Wd)(T:iG R)(I:aU w A R)(U:bI R=E)(F:E≠0) :
  yO 148 #[rlV A R,acV x] w fun e w' => ∃ B:RA,e=.returned (.tuple #[rlV B dJ,.int .i64 0,.int .i64 E])/\Below w.heap.size w w' /\ aU w' B dJ:=by
 have J:Hid (∀ W,aU W A R->Calls _ _ _ _ _):=fun W I=>zN A R W T I;rw[U] at J;have hz:(E == 0)=false:=by simp[F]
 have M:Hid _:=GJ w A R x I;clear I U T F;obtain⟨xk,xa,Z,xc,xn⟩:=x;obtain⟨a0,a1,a2,a3,c0,c1,c2,c3⟩:=A;dsimp only[rlV,acV] at *
 go_enter func148,ntmps148
 go_wp2_with fail
 refine yj (J _ M.rl) ?_;rintro e V1 ⟨rfl,hb⟩;have D:Hid _:=M.below hb;clear hb J M;obtain⟨r0,r1,r2,r3,rf,rl⟩:=aV D.r;obtain⟨z0,z1,z2,z3,zf,zl⟩:=aV D.z;obtain⟨y0,y1,y2,y3,y4,yl⟩:=jV D.x
 go_wp2
 obtain⟨X,O⟩:∃ X,(((V1.setCell ⟨w.heap.size+1+1,0,none⟩ (.slice none 0 0)).setCell ⟨w.heap.size+1+1,1,none⟩ (.slice none 0 0)).setCell ⟨w.heap.size+1+1,2,none⟩ (.slice none 0 0)).setCell ⟨w.heap.size+1+1,3,none⟩ (.slice none 0 0)=X:=⟨_,rfl⟩;have x0:X.heap[w.heap.size+1+1]?=some (.cells #[.slice none 0 0,.slice none 0 0,.slice none 0 0,.slice none 0 0] 50 (0,0)):=by rw[<- O];exact nY D.z
 have Z:Bl w X:=by rw[<- O];exact(((D.bel.setCell oab _).setCell oab _).setCell oab _).setCell oab _
 rw[O];obtain⟨m0,m1,m2,m3,mf,ml⟩:=aV x0;exact yz (v:=.tuple #[.agg #[.slice none 0 0,.slice none 0 0,.slice none 0 0,.slice none 0 0],.int .i64 0,.int .i64 E]) (by simp[results,results148,go_sem,m0,m1,m2,m3]) rfl ⟨⟨none,none,none,none,0,0,0,0⟩,rfl,Z,xU _ _⟩
theorem Uy(A:RA)(R:Rl)(x:Ac)(w:Wd)(F:bI R=0)(I:aU w A R)(ha:¬ isH x.a) :
  yO 148 #[rlV A R,acV x] w fun e w' => ∃ B:RA,e=.returned (.tuple #[rlV B dJ,.int .i64 0,.int .i64 4])/\Below w.heap.size w w' /\ aU w' B dJ:=by
 have hl:=(gI F).2.1;have J:Hid (∀ W,aU W A R->Calls _ _ _ _ _):=fun W I=>zN A R W (uS F) I;rw[F] at J;have M:Hid (∀ W,Calls _ _ _ _ _):=fun W=>sP A R x.a W hl;rw[show decide (isH x.a)=false from yH ha] at M;have O:Hid _:=GJ w A R x I;clear I ha F hl;obtain⟨xk,xa,xb,xc,xn⟩:=x;obtain⟨a0,a1,a2,a3,c0,c1,c2,c3⟩:=A;dsimp only[rlV,acV] at *
 go_enter func148,ntmps148
 go_wp2_with fail
 refine yj (J _ O.rl) ?_;rintro e V1 ⟨rfl,hb⟩;have D:Hid _:=O.below hb;clear hb J O;obtain⟨U,r1,r2,r3,Z,rl⟩:=aV D.r;obtain⟨z0,z1,z2,z3,zf,zl⟩:=aV D.z;obtain⟨y0,y1,y2,y3,y4,yl⟩:=jV D.x
 go_wp2_with fail
 refine yj (M _) ?_;rintro e V2 ⟨rfl,hb⟩;have E:Hid _:=D.below hb;clear U r1 r2 r3 Z rl z0 z1 z2 z3 zf zl y0 y1 y2 y3 y4 yl;clear hb M D;obtain⟨U,r1,r2,r3,Z,rl⟩:=aV E.r;obtain⟨z0,z1,z2,z3,zf,zl⟩:=aV E.z;obtain⟨y0,y1,y2,y3,y4,yl⟩:=jV E.x
 go_wp2
 obtain⟨X,T⟩:∃ X,(((V2.setCell ⟨w.heap.size+1+1,0,none⟩ (.slice none 0 0)).setCell ⟨w.heap.size+1+1,1,none⟩ (.slice none 0 0)).setCell ⟨w.heap.size+1+1,2,none⟩ (.slice none 0 0)).setCell ⟨w.heap.size+1+1,3,none⟩ (.slice none 0 0)=X:=⟨_,rfl⟩;have x0:X.heap[w.heap.size+1+1]?=some (.cells #[.slice none 0 0,.slice none 0 0,.slice none 0 0,.slice none 0 0] 50 (0,0)):=by rw[<- T];exact nY E.z
 have xb:Bl w X:=by rw[<- T];exact(((E.bel.setCell oab _).setCell oab _).setCell oab _).setCell oab _
 rw[T];obtain⟨m0,m1,m2,m3,mf,ml⟩:=aV x0;exact yz (v:=.tuple #[.agg #[.slice none 0 0,.slice none 0 0,.slice none 0 0,.slice none 0 0],.int .i64 0,.int .i64 4]) (by simp[results,results148,go_sem,m0,m1,m2,m3]) rfl ⟨⟨none,none,none,none,0,0,0,0⟩,rfl,xb,xU _ _⟩
theorem Uz(A:RA)(R:Rl)(x:Ac)(w:Wd)(I:bI R=0)(J:aU w A R)(ha:isH x.a)(hk:x.k≠1/\x.k≠2/\x.k≠4/\x.k≠6/\x.k≠5/\x.k≠11/\x.k≠14/\x.k≠15/\x.k≠3/\x.k≠7/\x.k≠8) :
  yO 148 #[rlV A R,acV x] w fun e w' => ∃ B:RA,e=.returned (.tuple #[rlV B dJ,.int .i64 0,.int .i64 3])/\Below w.heap.size w w' /\ aU w' B dJ:=by
 have hl:=(gI I).2.1;have M:Hid (∀ W,aU W A R->Calls _ _ _ _ _):=fun W J=>zN A R W (uS I) J;rw[I] at M;have O:Hid (∀ W,Calls _ _ _ _ _):=fun W=>sP A R x.a W hl;rw[show decide (isH x.a)=true from yI ha] at O;have D2:Hid (∀ W,Calls _ _ _ _ _):=fun W=>Uw x.k W hk;have T:Hid _:=GJ w A R x J;clear J ha I hl hk;obtain⟨xk,xa,xb,xc,xn⟩:=x;obtain⟨a0,a1,a2,a3,c0,c1,c2,c3⟩:=A;dsimp only[rlV,acV] at *
 go_enter func148,ntmps148
 go_wp2_with fail
 refine yj (M _ T.rl) ?_;rintro e V1 ⟨rfl,hb⟩;have D:Hid _:=T.below hb;clear hb M T;obtain⟨r0,r1,r2,r3,rf,rl⟩:=aV D.r;obtain⟨z0,z1,z2,z3,zf,zl⟩:=aV D.z;obtain⟨y0,y1,y2,y3,y4,yl⟩:=jV D.x
 go_wp2_with fail
 refine yj (O _) ?_;rintro e V2 ⟨rfl,hb⟩;have E:Hid _:=D.below hb;clear r0 r1 r2 r3 rf rl z0 z1 z2 z3 zf zl y0 y1 y2 y3 y4 yl;clear hb O D;obtain⟨r0,r1,r2,r3,rf,rl⟩:=aV E.r;obtain⟨z0,z1,z2,z3,zf,zl⟩:=aV E.z;obtain⟨y0,y1,y2,y3,y4,yl⟩:=jV E.x;have a5:∀ w:World,(binOp BinOp.eql 209 Value.nilFunc Value.nilFunc).run prog w=.ok (.bool true) w:=fun _=>oad
 go_wp2_with fail
 refine yj (D2 _) ?_;rintro e w6 ⟨rfl,F⟩;have Z:=F.symm;clear F;subst Z
 go_wp2
 obtain⟨X,U⟩:∃ X,(((V2.setCell ⟨w.heap.size+1+1,0,none⟩ (.slice none 0 0)).setCell ⟨w.heap.size+1+1,1,none⟩ (.slice none 0 0)).setCell ⟨w.heap.size+1+1,2,none⟩ (.slice none 0 0)).setCell ⟨w.heap.size+1+1,3,none⟩ (.slice none 0 0)=X:=⟨_,rfl⟩;have x0:X.heap[w.heap.size+1+1]?=some (.cells #[.slice none 0 0,.slice none 0 0,.slice none 0 0,.slice none 0 0] 50 (0,0)):=by rw[<- U];exact nY E.z
 have xb:Bl w X:=by rw[<- U];exact(((E.bel.setCell oab _).setCell oab _).setCell oab _).setCell oab _
 rw[U];obtain⟨m0,m1,m2,m3,mf,ml⟩:=aV x0;exact yz (v:=.tuple #[.agg #[.slice none 0 0,.slice none 0 0,.slice none 0 0,.slice none 0 0],.int .i64 0,.int .i64 3]) (by simp[results,results148,go_sem,m0,m1,m2,m3]) rfl ⟨⟨none,none,none,none,0,0,0,0⟩,rfl,xb,xU _ _⟩
theorem lT{q:Rs}{F:Nat}(I:x.k=k)(E:∀ args w,(callFunc G args).run prog w=.ok (.enter G args) w)
  (h:∀ W,yO 162 #[.int .i64 k] W fun e w' => ∃ D,e=.returned (.func (.func G) #[] #[.pointer (some ⟨D,0,none⟩)])/\Below W.heap.size W w' /\ w'.cell? ⟨D,0,none⟩=some (.func (.func F) #[] #[]))
  (hd:∀ D (w:Wd),w.cell? ⟨D,0,none⟩=some (.func (.func F) #[] #[])->iK G #[.pointer (some ⟨D,0,none⟩)] w R x q):vV R x q:=fun W=>by
 rw[I];refine(h W).mono ?_;rintro e w' ⟨D,rfl,hb,hc⟩;exact⟨G,_,rfl,hb,E,fun J h0=>hd D J ((h0.cell (yi _ _ hc)).trans hc)⟩
theorem YT{q:Rs}(E:x.k=k)(D:∀ args w,(callFunc G args).run prog w=.ok (.enter G args) w)
  (h:∀ W,yO 162 #[.int .i64 k] W fun e w' => e=.returned (.func (.func G) #[] #[])/\w' = W) (hd:∀ w:World,iK G #[] w R x q):vV R x q:=fun W=>by
 rw[E];refine(h W).mono ?_;rintro e w' ⟨rfl,rfl⟩;exact⟨G,_,rfl,yv _ _,D,fun F _=>hd F⟩
theorem Va{a n:Int}(h:iR R.s n=0):xO R a n=⟨0,⟨rS (iR R.s n) (mkS R.s n),R.hs.set a.toNat (rH (iR R.s n) (mkH R.s)),R.i,R.t⟩,0⟩:=by
 unfold xO;rw[pU h,h];rfl
theorem Vb{h:Int × Int}{c:Bool}(e:oV R.s h.1 h.2=0):xQ R b h c=⟨0,⟨rS (oV R.s h.1 h.2) (xN R.s h.1 c),R.hs.set b.toNat (rH (oV R.s h.1 h.2) (mkH R.s)),R.i,R.t⟩,0⟩:=by
 unfold xQ;rw[pU e,e];rfl
theorem Vd(R:Rl)(x:Ac)(hR:bI R=0)(ha:isH x.a)(hk:¬ (x.k≠1/\x.k≠2/\x.k≠4/\x.k≠6/\x.k≠5/\x.k≠11/\x.k≠14/\x.k≠15/\x.k≠3/\x.k≠7/\x.k≠8)):vV R x (doG R x):=by
 obtain⟨wf,hl,hg,_⟩:=gI hR;have J:=(uR hg).1;unfold doG;rw[ye ha];by_cases k1:x.k=1
 ·rw[ye k1];exact YT k1 (yM func165 oad rfl) Uu (fun w=>Uf w R x hl ha _ _ _ (Ud R.s x.n wf) _ (pR _ _ _) Va)
 rw[yd k1];by_cases k2:x.k=2
 ·rw[ye k2];exact lT k2 (yM func183 oad rfl) Uo (fun D w hc=>YJ _ (yM func167 oad rfl) D w hc R x hl ha _ _ (Lx R.s (hd R x.a) wf))
 rw[yd k2];by_cases k4:x.k=4
 ·rw[ye k4];exact lT k4 (yM func183 oad rfl) Uq (fun D w hc=>YJ _ (yM func168 oad rfl) D w hc R x hl ha _ _ (Ma R.s (hd R x.a) wf))
 rw[yd k4];by_cases k6:x.k=6
 ·rw[ye k6];exact YT k6 (yM func169 oad rfl) Uv (fun w=>Ty w R x wf hl ha)
 rw[yd k6];by_cases k5:x.k=5
 ·rw[ye k5];exact lT k5 (yM func187 oad rfl) Ur (fun D w hc=>YL _ (yM func171 oad rfl) D w hc R x wf hl ha x.n (fun a c W _=>Ua a _ c x.n W))
 rw[yd k5];by_cases I:x.k=11
 ·rw[ye I];unfold CK;by_cases hn:0<=x.n/\x.n<R.i.length
  ·rw[ye hn];obtain⟨j,hj⟩:∃ j:Nat,x.n=j:=⟨x.n.toNat,oaa⟩;refine lT I (yM func187 oad rfl) YP (fun D w hc=>YL _ (yM func172 oad rfl) D w hc R x wf hl ha _ (fun a c W U=>?_));rw[hj,yk];exact Ub a c R.i j W U oaa J
  ·rw[yd hn];exact lT I (yM func187 oad rfl) YP (fun D w hc=>Tz _ (yM func172 oad rfl) D w hc R x wf hl ha 4 0 oae (fun a c W _=>Uc a _ c x.n W hn J))
 rw[yd I];by_cases M:x.k=14
 ·rw[ye M];exact lT M (yM func188 oad rfl) Us (fun D w hc=>YK _ (yM func174 oad rfl) D w hc R x hl ha _ _ (fun a c W U=>Un R.s (hd R x.a) x wf a c W U))
 rw[yd M];by_cases O:x.k=15
 ·rw[ye O];exact lT O (yM func188 oad rfl) Ut (fun D w hc=>YK _ (yM func175 oad rfl) D w hc R x hl ha _ _ (fun a c W U=>Um R.s (hd R x.a) x wf a c W U))
 rw[yd O];have kk:x.k=3\/x.k=7\/x.k=8:=oaa
 rw[ye kk];have T:(∀ args w,(callFunc 191 args).run prog w=.ok (.enter 191 args) w):=yM func191 oad rfl;have eh:=yM func178 oad rfl;have eu:=yM func179 oad rfl;have ei:=yM func177 oad rfl;by_cases hb:isH x.b
 ·rw[ye hb];by_cases Z:x.k=7
  ·rw[ye Z];exact lT Z T YR (fun D w hc=>NK _ eh D w hc R x hl hb _ (Ug w R x hl ha hb _ _ _ (Ue R.s (hd R x.a) (decide (x.n=1)) wf) _ (pR _ _ _) Vb))
  rw[yd Z];by_cases k8:x.k=8
  ·rw[ye k8];exact lT k8 T YS (fun D w hc=>NK _ eu D w hc R x hl hb _ (Uh w R x wf hl ha hb))
  rw[yd k8];have k3:x.k=3:=oaa
  refine lT k3 T YQ (fun D w hc=>NK _ ei D w hc R x hl hb _ ?_);by_cases E:x.c<0
  ·rw[ye E];exact Ui w R x wf hl ha hb E
  rw[yd E];by_cases F:isH x.c
  ·rw[ye F];exact Ul w R x wf hl ha hb F
  ·rw[yd F];exact Uj w R x wf hl ha hb E F
 ·rw[yd hb];rcases kk with k3|Z|k8
  ·exact lT k3 T YQ (fun D w hc=>NJ _ ei D w hc R x hl hb)
  ·exact lT Z T YR (fun D w hc=>NJ _ eh D w hc R x hl hb)
  ·exact lT k8 T YS (fun D w hc=>NJ _ eu D w hc R x hl hb)
def Ve:Prop:=∀ (A:RA) (R:Rl) (x:Ac) (w:Wd),iG R->aU w A R ->
 yO 148 #[rlV A R,acV x] w fun e w' => ∃ B:RA,e=.returned (.tuple #[rlV B (doF R x).r,.int .i64 (doF R x).o,.int .i64 (doF R x).e])/\Below w.heap.size w w' /\ aU w' B (doF R x).r/\((doF R x).e=0->RlO w.heap.size w' B (doF R x).r)
theorem Vf:Ve:=fun A R x w hB I=>by
 by_cases D:bI R=0
 ·have e:doF R x=doG R x:=ye D;rw[e];by_cases ha:isH x.a
  ·by_cases U:x.k≠1/\x.k≠2/\x.k≠4/\x.k≠6/\x.k≠5/\x.k≠11/\x.k≠14/\x.k≠15/\x.k≠3/\x.k≠7/\x.k≠8
   ·have J:doG R x=bad 3:=by
     obtain⟨h1,E,Z,h6,h5,M,O,T,F,h7,h8⟩:=U;unfold doG;rw[ye ha,yd h1,yd E,yd Z,yd h6,yd h5,yd M,yd O,yd T,yd oaa]
    rw[J];exact(Uz A R x w D I ha U).mono (fun e w' ⟨B,h1,E,F⟩=>⟨B,h1,E,F,fun h=>absurd h oae⟩)
   ·have h:=Tu A R x _ w D I ha (Vd R x D ha U);have s:=Iu R x;by_cases h0:(doG R x).e=0
    ·rw[ye h0,ye h0] at h;exact h
    ·rw[yd h0,yd h0] at h;rw[(s h0).1,(s h0).2];exact h
  ·have J:doG R x=bad 4:=(by unfold doG;rw[yd ha]);rw[J];exact(Uy A R x w D I ha).mono (fun e w' ⟨B,h1,E,F⟩=>⟨B,h1,E,F,fun h=>absurd h oae⟩)
 ·have e:doF R x=bad (bI R):=yd D;rw[e];exact(Ux A R x _ w hB I rfl D).mono (fun e w' ⟨B,h1,E,F⟩=>⟨B,h1,E,F,fun h=>absurd h D⟩)
