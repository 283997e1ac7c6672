/-
  x
-/
import Derived.Test.YtcbcpomacdngmaaGreatA13
import Derived.Maps.AppendAt
namespace Go.Proofs.YtcbcpomacdngmaaGreat
set_option maxRecDepth 100000
set_option maxHeartbeats 4000000
set_option linter.unusedVariables false
open Go.RowKit Go.ChangeShapes Go.WideShapes Tryz
variable{S T:List Nd}{X:Nat->Prop}{k:Nat}{w w':World}{p u o n:Int}
theorem Hd(a:OA)(c:Nat)(S:List Nd)(F T p r:Nat)(ka:OA)(kl kc:Nat)(w:Wd)(hN:S.length<=24)(hr:r<S.length)(J:dA S p=r)(M:aD w a S)(I:w.cell? ⟨F,0,none⟩=some (.slice a S.length c))(E:∃ b o,a=some ⟨b,o,none⟩/\w.cell? ⟨b,o+r*8+5,none⟩=some (.slice ka kl kc)) :
  yO 203 #[.int .i64 (p:Int),.pointer (some ⟨F,0,none⟩),.pointer (some ⟨T,0,none⟩)] w fun e w' => e=.returned (.slice ka kl kc)/\Below w.heap.size w w' := by
 have d:=uC a c S (p:Int) w oaa M;rw[J] at d;have D:Hid _:=d;obtain⟨b,o,rfl,E⟩:=E;have a5:(r:Int)<(S.length:Int):=oaa
 have a6:((r:Int) == -1)=false:=oac
 have a7:decide ((r:Int) = -1)=false:=oac
 clear d M J;generalize S.length=n at *
 go_enter func203,ntmps203
 go_wp2_with fail
 refine yj D.out ?_;rintro e w1 ⟨rfl,hb⟩;have U:=aA I hb;have Z:=aA E hb;have O:Hid _:=hb;clear hb I E
 go_wp2_with fail
 go_ret;exact⟨rfl,O.out⟩
theorem He(a:OA)(c:Nat)(S:List Nd)(F E T p:Nat)(ka:OA)(kl kc:Nat)(w:Wd)(hN:S.length<=24)(hp:p<S.length)(O:dA S p = -1)(U:aD w a S)(I:w.cell? ⟨F,0,none⟩=some (.slice a S.length c))(J:w.cell? ⟨E,0,none⟩=some (.slice (some ⟨T,0,none⟩) S.length S.length))(M:w.cell? ⟨T,p,none⟩=some (.slice ka kl kc))(hk:0<kl) :
  yO 203 #[.int .i64 (p:Int),.pointer (some ⟨F,0,none⟩),.pointer (some ⟨E,0,none⟩)] w fun e w' => e=.returned (.slice ka kl kc)/\Below w.heap.size w w' := by
 have d:=uC a c S (p:Int) w oaa U;rw[O] at d;have D:Hid _:=d;have a9:(p:Int)<(S.length:Int):=oaa
 have a8:(0:Int)<(kl:Int):=oaa
 clear d U O;generalize S.length=n at *
 go_enter func203,ntmps203
 go_wp2_with fail
 refine yj D.out ?_;rintro e w1 ⟨rfl,hb⟩;have a5:=aA I hb;have a6:=aA J hb;have a7:=aA M hb;have Z:Hid _:=hb;clear hb I M J
 go_wp2_with fail
 go_ret;exact⟨rfl,Z.out⟩
theorem Hf(a:OA)(c:Nat)(S:List Nd)(I F U p:Nat)(ka ga:OA)(kl kc gc:Nat)(w:Wd)(hN:S.length<=24)(hp:p<S.length)(T:dA S p = -1)(Z:aD w a S)(J:w.cell? ⟨I,0,none⟩=some (.slice a S.length c))(M:w.cell? ⟨F,0,none⟩=some (.slice (some ⟨U,0,none⟩) S.length S.length))(O:w.cell? ⟨U,p,none⟩=some (.slice ga 0 gc))(E:∃ b o,a=some ⟨b,o,none⟩/\w.cell? ⟨b,o+p*8+5,none⟩=some (.slice ka kl kc)) :
  yO 203 #[.int .i64 (p:Int),.pointer (some ⟨I,0,none⟩),.pointer (some ⟨F,0,none⟩)] w fun e w' => e=.returned (.slice ka kl kc)/\Below w.heap.size w w' := by
 have d:=uC a c S (p:Int) w oaa Z;rw[T] at d;have D:Hid _:=d;obtain⟨b,o,rfl,E⟩:=E;have a9:(p:Int)<(S.length:Int):=oaa
 clear d Z T;generalize S.length=n at *
 go_enter func203,ntmps203
 go_wp2_with fail
 refine yj D.out ?_;rintro e w1 ⟨rfl,hb⟩;have a5:=aA J hb;have a6:=aA M hb;have a7:=aA O hb;have a8:=aA E hb;have HB:Hid _:=hb;clear hb J O M E
 go_wp2_with fail
 go_ret;exact⟨rfl,HB.out⟩
def mW(S:List Nd)(k:Nat):List Int:=fQ (dB S (dQ S S.length)) (xJ S) k
theorem Hg(a:OA)(c:Nat)(S:List Nd)(F E T:Nat)(w:Wd)(wf:WF S)(I:aD w a S)(U:w.cell? ⟨F,0,none⟩=some (.slice a S.length c))(cg:w.cell? ⟨E,0,none⟩=some (.slice (some ⟨T,0,none⟩) S.length S.length))(hG:gH w T S.length (dQ S S.length))(p:Nat)(J:p<S.length) :
  ∃ ka kc,(dB S (dQ S S.length) p).length<=9223372036854775807/\(∀ w1,Bl w w1->aG w1 ka (dB S (dQ S S.length) p))/\∀ w1,Bl w w1->yO 203 (#[.int .i64 (p:Int)] ++ #[.pointer (some ⟨F,0,none⟩),.pointer (some ⟨E,0,none⟩)]) w1 fun e w2=>e=.returned (.slice ka (dB S (dQ S S.length) p).length kc)/\Below w1.heap.size w1 w2:=by
 have hN:=wf.small;unfold dB;by_cases O:dA S p = -1
 ·rw[yd (by simpa using O)];obtain⟨ga,gc,g1,g2,_⟩:=hG.1 p J;by_cases hg:dQ S S.length p=[]
  ·rw[yd (by simpa using hg)];rw[hg] at g1;obtain⟨b,o,Z,_,_,_,_,_,⟨ka,kc,c5,D⟩,_⟩:=I p J;exact⟨ka,kc,by have:=wf.kids_small J;omega,fun w1 h1=>D.below h1,fun w1 h1=>Hf a c S F E T p ka ga _ kc gc w1 hN J O (I.below h1) (aA U h1) (aA cg h1) (aA g1 h1) ⟨b,o,Z,aA c5 h1⟩⟩
  ·rw[ye (by simpa using hg)];have M:0<(dQ S S.length p).length:=List.length_pos_iff.2 hg;exact⟨ga,gc,by have:=(Gh wf (yr S.length) (p:=p)).1;omega,fun w1 h1=>g2.below h1,fun w1 h1=>He a c S F E T p ga _ gc w1 hN J O (I.below h1) (aA U h1) (aA cg h1) (aA g1 h1) M⟩
 ·rw[ye (by simpa using O)];obtain⟨r,h1,h2,_⟩:=rR S p O;rw[h2,yk];obtain⟨b,o,Z,_,_,_,_,_,⟨ka,kc,c5,D⟩,_⟩:=I r h1;exact⟨ka,kc,by have:=wf.kids_small h1;omega,fun w1 h1=>D.below h1,fun w1 hb=>Hd a c S F E p r ka _ kc w1 hN h1 h2 (I.below hb) (aA U hb) ⟨b,o,Z,aA c5 hb⟩⟩
theorem Hl(a:OA)(c:Nat)(S:List Nd)(p u E:Int)(w:Wd)(U:S.length<=9223372036854775807)(J:Big S)(O:aD w a S)(M:aP S p u=E)(F:E≠0) :
  yO 190 #[.agg #[.slice a S.length c],.agg #[.int .i64 p,.int .i64 u]] w fun e w' => e=.returned (.tuple #[.slice none 0 0,.int .i64 E])/\Below w.heap.size w w' := by
 have D:Hid (∀ W,aD W a S->Calls _ _ _ _ _):=fun W Z=>AU a c S p u E W U J Z M F;have T:Hid (aD w a S):=O;have e1:(E == 0)=false:=beq_eq_false_iff_ne.2 F;have e2:decide (E=0)=false:=yH F;clear O M J;generalize S.length=n at *
 go_enter func190,ntmps190
 go_wp2_with fail
 refine yj (D _ (T.below (aM _ _ _))) ?_;rintro e w1 ⟨rfl,hb⟩;have I:Hid (Bl w w1):=(aM w _ _).trans (hb.mono oab);clear hb
 go_wp2_with fail
 exact yz (v:=.tuple #[.slice none 0 0,.int .i64 E]) (by simp[results,results190,go_sem]) rfl ⟨rfl,I.trans ((aB _ _).mono I.size)⟩
theorem Hm(wf:WF S)(D:k<S.length):(mW S k).length<=S.length:=Fy wf (SN wf) D (xJ S)
theorem Ho(a:OA)(c:Nat)(S:List Nd)(k E D F:Nat)(w:Wd)(wf:WF S)(I:k<S.length)(Z:aD w a S)(J:w.cell? ⟨E,0,none⟩=some (.slice a S.length c))(M:w.cell? ⟨D,0,none⟩=some (.slice (some ⟨F,0,none⟩) S.length S.length))(U:gH w F S.length (dQ S S.length)) :
  yO 204 #[.int .i64 (k:Int),.func (.func 203) #[] #[.pointer (some ⟨E,0,none⟩),.pointer (some ⟨D,0,none⟩)]] w fun e w' => ∃ sa cap,e=.returned (.slice sa (mW S k).length cap)/\Below w.heap.size w w' /\ aG w' sa (mW S k):=by
 have hN:=wf.small;have hl:=Hm wf I;unfold mW at hl |-;refine(PZ (dB S (dQ S S.length)) S.length 203 #[.pointer (some ⟨E,0,none⟩),.pointer (some ⟨D,0,none⟩)] k (xJ S) w (yM func203 oad rfl) (fun p hp=>Hg a c S E D F w wf Z J M U p hp) I (Ga wf (SN wf) I) oaa).mono fun e w' ⟨sa,cap,h1,O,T,_⟩=>⟨sa,cap,h1,O,T⟩
theorem Hq(a:OA)(c:Nat)(S:List Nd)(k:Nat)(u:Int)(w:Wd)(wf:WF S)(hS:aD w a S)(hk:k<S.length)(hE:aP S k u=0) :
  yO 190 #[.agg #[.slice a S.length c],.agg #[.int .i64 (k:Int),.int .i64 u]] w fun e w' => ∃ sa cap,e=.returned (.tuple #[.slice sa (mW S k).length cap,.int .i64 0])/\Below w.heap.size w w' /\ aG w' sa (mW S k):=by
 have hN:=wf.small;have D:Hid (∀ W,aD W a S->Calls _ _ _ _ _):=fun W hW=>find_ok a c S k u W oaa wf.big hW hk hE (by have:=wf.kids_small hk;omega);have DG:Hid (∀ W,aD W a S->Calls _ _ _ _ _):=fun W hW=>Ha a c S W wf hW;have U:Hid (∀ bs bg J W,aD W a S->World.cell? W ⟨bs,0,none⟩=some (.slice a S.length c)->World.cell? W ⟨bg,0,none⟩=some (.slice (some ⟨J,0,none⟩) S.length S.length)->gH W J S.length (dQ S S.length)->Calls _ _ _ _ _):=fun bs bg J W h1 h2 h3 h4=>Ho a c S k bs bg J W wf hk h1 h2 h3 h4;have HS:Hid (aD w a S):=hS;clear hS hE wf;generalize mW S k=F at *;generalize nd S k=x at *;obtain⟨xu,xn,xt,xm,xp,a5,xh,xc⟩:=x;generalize dQ S S.length=G at *;generalize S.length=n at *;dsimp only at D;obtain⟨fl,M⟩:∃ z,F.length=z:=⟨_,rfl⟩;rw[M] at U |-;obtain⟨xl,T⟩:∃ z,a5.length=z:=⟨_,rfl⟩;rw[T] at D;clear M T
 go_enter func190,ntmps190
 go_wp2_with fail
 refine yj (D _ (HS.below (aM _ _ _))) ?_;rintro e w1 ⟨g,rfl,hb,_⟩;have l0:=aA (fE w #[.slice a n c] 43 0 (.cells #[.int .i64 (k:Int),.int .i64 u] 61) rfl) hb;have l1:=aA (fF w #[.int .i64 (k:Int),.int .i64 u] 61 0 (.cells #[.slice a n c] 43) rfl) hb;have q0:=yi _ _ l0;have q1:=yi _ _ l1;have I:Hid (Bl w w1):=(aM w _ _).trans (hb.mono oab);clear hb D
 go_wp2_with fail
 refine yj (DG _ (HS.below (I.trans ((aB _ _).mono I.size)))) ?_;rintro e w2 ⟨rfl,hb,O,hG⟩;have m0:=aA (aA l0 (aB _ _)) hb;have m1:=aA (aA l1 (aB _ _)) hb;have r0:=yi _ _ m0;have r1:=yi _ _ m1;have E:Hid (Bl w w2):=(I.trans ((aB _ _).mono I.size)).trans (hb.mono (by have:=I.size;simp;omega));have HG:Hid (gH w2 _ n G):=hG;clear hb l0 l1 q0 q1 DG hG;simp only[yw] at HG O |-;generalize w1.heap.size+1+1=J at *
 go_wp2_with fail
 refine yj (U _ _ _ _ (HS.below (E.trans ((aB _ _).mono E.size))) (aA m0 (aB _ _)) (aK w2 _ _ 0 rfl) (gH.below HG O (aB _ _))) ?_;rintro e w3 ⟨sa,cap,rfl,hb,hI⟩;have Z:Hid (Bl w w3):=(E.trans ((aB _ _).mono E.size)).trans (hb.mono (by have:=E.size;simp;omega));have HI:Hid _:=hI;clear hb hI U HG m0 m1
 go_wp2_with fail
 exact yz (v:=.tuple #[.slice sa fl cap,.int .i64 0]) (by simp[results,results190,go_sem]) rfl ⟨sa,cap,rfl,Z.out,HI.out⟩
structure Rl where
 s:List Nd
 hs:List (Int × Int)
 i:List Cl
 t:List Int
def dJ:Rl:=⟨[],[],[],[]⟩
structure Ac where
 k:Int
 a:Int
 b:Int
 c:Int
 n:Int
structure Rs where
 e:Int
 r:Rl
 o:Int
theorem lC(h:aP S p u=0):WF S/\∃ k:Nat,p=k/\k<S.length/\(nd S k).u=true/\(nd S k).n=u :=
 ⟨(mU S).1 (AR h).1,holds_zero (AR h).2⟩
theorem UA{hs:List (Int × Int)}(h:dH S hs=0):WF S/\∀ x ∈ hs,∃ k:Nat,x.1=k/\k<S.length/\(nd S k).u=true/\(nd S k).n=x.2:=by
 unfold dH at h
 split at h
 ·rename_i hw;refine⟨(mU S).1 hw,?_⟩
  induction hs with
  | nil=>intro x D;cases D
  | cons y r E =>
   unfold mP at h
   split at h
   ·rename_i h0;intro x D;rcases List.mem_cons.1 D with rfl|D
    ·exact holds_zero h0
    ·exact E h x D
   ·exact absurd h (by assumption)
 ·exact absurd h (by assumption)
def jA(S:List Nd):Nat:=S.findIdx dI
theorem Il(D:k<S.length)(h1:dI (nd S k)=true)(E:∀ i,i<k->dI (nd S i)=false):jA S=k:=by
 unfold jA;rw[List.findIdx_eq D];refine⟨by rw[<- eQ D];exact h1,fun j F=>?_⟩;have:=E j F;rw[eQ oaa] at this;exact this
theorem Im(h:S.any dI=true):jA S<S.length/\dI (nd S (jA S))=true/\∀ i,i<jA S->dI (nd S i)=false:=by
 obtain⟨k,E,h1,D⟩:=Dm h;rw[Il E h1 D];exact⟨E,h1,D⟩
def mkS(S:List Nd)(t:Int):List Nd:=S.set (jA S) (fI (nd S (jA S)) t)
def mkH(S:List Nd):Int × Int:=((jA S:Int),(nd S (jA S)).n+1)
theorem CJ{t:Int}(h:iR S t=0):WF S/\(0<=t/\t<=99)/\jA S<S.length/\dI (nd S (jA S))=true/\∀ i,i<jA S->dI (nd S i)=false:=by
 unfold iR at h;by_cases hc:dG S=0
 ·rw[ye hc] at h;by_cases D:0<=t/\t<=99
  ·rw[ye D] at h
   cases hq:S.any dI with
   | true=>exact⟨(mU S).1 hc,D,Im hq⟩
   | false=>rw[hq,yd oac] at h;omega
  ·rw[yd D] at h;omega
 ·rw[yd hc] at h;exact absurd h hc
instance (S:List Nd) (k:Nat):Decidable (nP S k):=by unfold nP;infer_instance
def xL(S:List Nd)(p u:Int):Int:=if aP S p u=0 then (if nP S p.toNat then 0 else 6) else aP S p u
def xM(S:List Nd)(p u:Int):Int:=if aP S p u=0 then (if (nd S p.toNat).p = -1 then 6 else 0) else aP S p u
def qH(S:List Nd)(p u n:Int):Int:=if aP S p u=0 then (if -1000000<=n/\n<=1000000 then 0 else 2) else aP S p u
def rV(S:List Nd)(p u:Int)(q:List Tst):Int:=if aP S p u=0 then qE q else aP S p u
def fT(S:List Nd)(p u q v:Int)(hs:List (Int × Int)):Int :=
 if dH S ((p,u) ::(q,v) :: hs)=0 then (if mQ S q.toNat p.toNat=true then (match hs with | []=>0|h :: _=>if (nd S h.1.toNat).p=p then 0 else 6) else 6) else dH S ((p,u) ::(q,v) :: hs)
def kE(S:List Nd)(p q:Int)(hs:List (Int × Int)):List Nd :=
 match hs with
 | []=>dD (leaveG S q.toNat) p.toNat q.toNat (nd (leaveG S q.toNat) p.toNat).ks.length
 | h :: _=>if h.1=q then S else dD (leaveG S q.toNat) p.toNat q.toNat (idx (nd (leaveG S q.toNat) p.toNat).ks h.1).toNat
def oV(S:List Nd)(p u:Int):Int:=if aP S p u=0 then (if iD S p=true then 6 else iR S 0) else aP S p u
def xN(S:List Nd)(p:Int)(c:Bool):List Nd:=S.set (jA S) (fJ (nd S (jA S)) p.toNat c)
def upE(S:List Nd)(p u:Int):Int:=if aP S p u=0 then (if (nd S p.toNat).p = -1 then 6 else 0) else aP S p u
def upH(S:List Nd)(p:Int):Int × Int:=((nd S p.toNat).p,(nd S (nd S p.toNat).p.toNat).n)
def uO(S:List Nd)(p n:Int):List Nd:=S.set p.toNat { nd S p.toNat with m:=n }
def ans(E:Int)(R:Rl)(o:Int):Rs:=if E=0 then ⟨0,R,o⟩ else ⟨E,dJ,0⟩
def bad(E:Int):Rs:=⟨E,dJ,0⟩
theorem mE{E:Int}{R:Rl}(h:(ans E R o).e=0):E=0/\ans E R o=⟨0,R,o⟩:=by
 by_cases D:E=0
 ·exact⟨D,ye D⟩
 ·unfold ans at h;rw[yd D] at h;exact absurd h D
def isH(k:Int):Prop:=0<=k/\k<=15
instance (k:Int):Decidable (isH k):=by unfold isH;infer_instance
def hd(R:Rl)(k:Int):Int × Int:=R.hs.getD k.toNat (0,0)
def bI(R:Rl):Int:=if dG R.s=0 then (if R.hs.length=16 then (if bF R.i=0 then (if 4800<R.t.length then 1 else 0) else bF R.i) else 3) else dG R.s
def xO(R:Rl)(a n:Int):Rs:=ans (iR R.s n) ⟨mkS R.s n,R.hs.set a.toNat (mkH R.s),R.i,R.t⟩ 0
def JN(R:Rl)(h:Int × Int):Rs:=ans (xL R.s h.1 h.2) ⟨R.s.set h.1.toNat (lY (nd R.s h.1.toNat)),R.hs,R.i,R.t⟩ 0
def JO(R:Rl)(h:Int × Int):Rs:=ans (xM R.s h.1 h.2) ⟨leaveG R.s h.1.toNat,R.hs,R.i,R.t⟩ 0
def xP(R:Rl)(h:Int × Int):Rs:=ans (aP R.s h.1 h.2) R (nd R.s h.1.toNat).m
def qI(R:Rl)(h:Int × Int)(n:Int):Rs:=ans (qH R.s h.1 h.2 n) ⟨uO R.s h.1 n,R.hs,R.i,R.t⟩ 0
def CK(R:Rl)(h:Int × Int)(n:Int):Rs:=if 0<=n/\n<R.i.length then qI R h (cl R.i n.toNat).n else bad 4
def JP(R:Rl)(h:Int × Int)(t m:Int):Rs:=ans (rV R.s h.1 h.2 [⟨t,m,false⟩]) R (oP R.s h.1.toNat [⟨t,m,false⟩]).length
def JQ(R:Rl)(h:Int × Int):Rs:=ans (aP R.s h.1 h.2) R (mW R.s h.1.toNat).length
def nS(R:Rl)(h g:Int × Int)(hs:List (Int × Int)):Rs:=ans (fT R.s h.1 h.2 g.1 g.2 hs) ⟨kE R.s h.1 g.1 hs,R.hs,R.i,R.t⟩ 0
def xQ(R:Rl)(b:Int)(h:Int × Int)(c:Bool):Rs:=ans (oV R.s h.1 h.2) ⟨xN R.s h.1 c,R.hs.set b.toNat (mkH R.s),R.i,R.t⟩ 0
def aUp(R:Rl)(b:Int)(h:Int × Int):Rs:=ans (upE R.s h.1 h.2) ⟨R.s,R.hs.set b.toNat (upH R.s h.1),R.i,R.t⟩ 0
def doG(R:Rl)(x:Ac):Rs :=
 if isH x.a then
  if x.k=1 then xO R x.a x.n
  else if x.k=2 then JN R (hd R x.a)
  else if x.k=4 then JO R (hd R x.a)
  else if x.k=6 then xP R (hd R x.a)
  else if x.k=5 then qI R (hd R x.a) x.n
  else if x.k=11 then CK R (hd R x.a) x.n
  else if x.k=14 then JP R (hd R x.a) x.b x.n
  else if x.k=15 then JQ R (hd R x.a)
  else if x.k=3\/x.k=7\/x.k=8 then
   if isH x.b then
    if x.k=7 then xQ R x.b (hd R x.a) (decide (x.n=1))
    else if x.k=8 then aUp R x.b (hd R x.a)
    else if x.c<0 then nS R (hd R x.a) (hd R x.b) []
    else if isH x.c then nS R (hd R x.a) (hd R x.b) [hd R x.c] else bad 4
   else bad 4
  else bad 3
 else bad 4
def doF(R:Rl)(x:Ac):Rs:=if bI R=0 then doG R x else bad (bI R)
theorem WF.mark(h:WF S)(E:k<S.length)(F:(nd S k).u=true)(hn:-1000000<=n/\n<=1000000):WF (S.set k { nd S k with m:=n }):=by
 refine h.like oac (fun i hi=>?_) (fun i hi=>?_) (fun i hi D=>?_)
 ·rw[iQ S k i _ E];split
  ·rename_i e;subst e;obtain⟨r1,r2,r3⟩:=jY (h.node i hi);obtain⟨I,J,M⟩:=BA r2;refine rG ?_ (rM I J M) ?_
   ·unfold iO at r1 |-;simp only[Bool.and_eq_true,decide_eq_true_eq] at r1 |-;exact⟨r1.1,r1.2.1,hn⟩
   ·unfold gV at r3 |-;dsimp only;rw[ye F] at r3 |-;exact r3
  ·exact h.node i hi
 ·rw[iQ S k i _ E];split
  ·rename_i e;subst e;exact⟨rfl,rfl,rfl⟩
  ·exact⟨rfl,rfl,rfl⟩
 ·rw[iQ S k i _ E];split
  ·exact Or.inl F
  ·exact Or.inl D
def mF(x y:Nd):Prop:=y.u=x.u/\y.n=x.n/\y.t=x.t/\y.m=x.m
def CO(x y:Nd):Prop:=x.u=false/\y.u=true/\y.n=x.n+1/\y.m=x.m
def CQ(x y:Nd):Prop:=x.u=true/\y.u=false/\y.n=x.n
def UB(x y:Nd):Prop:=y.u=x.u/\y.n=x.n/\y.t=x.t
def uP(S T:List Nd):Prop:=T.length=S.length/\∃ q,∀ i,i<S.length->mF (nd S i) (nd T i)\/(i=q/\(CO (nd S i) (nd T i)\/CQ (nd S i) (nd T i)))
theorem mF.rfl{x:Nd}:mF x x:=⟨Eq.refl _,Eq.refl _,Eq.refl _,Eq.refl _⟩
theorem xR(hl:T.length=S.length)(h:∀ i,i<S.length->mF (nd S i) (nd T i)):uP S T:=⟨hl,0,fun i hi=>Or.inl (h i hi)⟩
theorem JR{y:Nd}(D:k<S.length)(h:CO (nd S k) y\/CQ (nd S k) y):uP S (S.set k y):=⟨oac,k,fun i hi=>by
 rw[iQ S k i _ D];split
 ·rename_i e;subst e;exact Or.inr ⟨rfl,h⟩
 ·exact Or.inl mF.rfl⟩
theorem CR{q v:Int}{hs:List (Int × Int)}(h:fT S p u q v hs=0):WF (kE S p q hs)/\uP S (kE S p q hs):=by
 unfold fT at h;by_cases h0:dH S ((p,u) ::(q,v) :: hs)=0
 ·rw[ye h0] at h;obtain⟨wf,O⟩:=UA h0;obtain⟨pa,J,hpa,hpu,I⟩:=O (p,u) oac;obtain⟨D,M,hch,hcu,E⟩:=O (q,v) oac;dsimp only at J M I E;subst J;subst M;rw[yk,yk] at h;by_cases F:mQ S D pa=true
  ·rw[ye F] at h;have pt:uH S pa D:=⟨wf,hpa,hch,hpu,hcu,F⟩
   have key:∀ at', WF (dD (leaveG S D) pa D at')/\uP S (dD (leaveG S D) pa D at'):=fun at' => ⟨pt.insert at', xR (by rw[qC,oM]) (fun i hi=>by
    obtain⟨a1,a2,a3,a4,T,a6⟩:=uG S D i;obtain⟨U,Z,b3,b4,b5,b6⟩:=oN (leaveG S D) pa D at' i;exact⟨U.trans a1,Z.trans a2,b4.trans a4,b5.trans T⟩)⟩
   unfold kE;rw[yk,yk]
   match hs with
   | []=>exact key _
   | hh :: r =>
    dsimp only;split
    ·exact⟨wf,xR rfl (fun i hi=>mF.rfl)⟩
    ·exact key _
  ·rw[yd F] at h;omega
 ·rw[yd h0] at h;exact absurd h h0
structure Kept (R:Rl) (x:Ac) (Q:Rl) (o:Int):Prop where
 a:isH x.a
 wf:WF Q.s
 len:Q.s.length=R.s.length
 hlen:Q.hs.length=R.hs.length
 inn:Q.i=R.i
 tld:Q.t=R.t
 told:o≠0->x.k=6\/x.k=14\/x.k=15
 same:x.k=6\/x.k=14\/x.k=15->Q=R
 node:∃ q,∀ i,i<R.s.length->mF (nd R.s i) (nd Q.s i)\/(i=q/\(CO (nd R.s i) (nd Q.s i)\/CQ (nd R.s i) (nd Q.s i)\/UB (nd R.s i) (nd Q.s i)))
 hand:∃ q,∀ i,i≠q->Q.hs.getD i (0,0)=R.hs.getD i (0,0)
 mark:x.k=5\/x.k=11->∃ k:Nat,(hd R x.a).1=k/\k<R.s.length/\(nd R.s k).u=true/\(nd R.s k).n=(hd R x.a).2/\(x.k=11->0<=x.n/\x.n<R.i.length)/\Q.s=R.s.set k { nd R.s k with m:=if x.k=11 then (cl R.i x.n.toNat).n else x.n }/\Q.hs=R.hs
 mild:x.k≠5->x.k≠11->uP R.s Q.s
theorem CS{α:Type}(l:List α)(k i:Nat)(v d:α)(h:i≠k):(l.set k v).getD i d=l.getD i d:=by
 simp only[List.getD_eq_getElem?_getD,List.getElem?_set_ne (Ne.symm h)]
theorem Kept.mildly{R:Rl}{x:Ac}(ha:isH x.a)(wf:WF T)(D:uP R.s T)(I:x.k≠6/\x.k≠14/\x.k≠15)(F:x.k≠5/\x.k≠11)(H:List (Int × Int))(hl:H.length=R.hs.length)(E:∃ q,∀ i,i≠q->H.getD i (0,0)=R.hs.getD i (0,0)):Kept R x ⟨T,H,R.i,R.t⟩ 0 :=
 {a:=ha,wf:=wf,len:=D.1,hlen:=hl,inn:=rfl,tld:=rfl,told:=fun h=>absurd rfl h,same:=fun h=>oaa,
  node:=by
   obtain⟨_,q,h⟩:=D;exact⟨q,fun i hi=>(h i hi).imp id (fun⟨e,hh⟩=>⟨e,hh.elim Or.inl (fun h=>Or.inr (Or.inl h))⟩)⟩
  hand:=E,mark:=fun h=>oaa,mild:=fun _ _=>D }
theorem Kept.asked{R:Rl}{x:Ac}(ha:isH x.a)(wf:WF R.s)(D:x.k=6\/x.k=14\/x.k=15):Kept R x R o :=
 {a:=ha,wf:=wf,len:=rfl,hlen:=rfl,inn:=rfl,tld:=rfl,told:=fun _=>D,same:=fun _=>rfl,
  node:=⟨0,fun i hi=>Or.inl mF.rfl⟩,hand:=⟨0,fun i hi=>rfl⟩,mark:=fun h=>oaa,mild:=fun _ _=>xR rfl (fun i hi=>mF.rfl) }
theorem Kept.marked{R:Rl}{x:Ac}(ha:isH x.a)(E:qH R.s (hd R x.a).1 (hd R x.a).2 n=0)(U:x.k=5\/x.k=11)(hn:n=if x.k=11 then (cl R.i x.n.toNat).n else x.n)(hi:x.k=11->0<=x.n/\x.n<R.i.length):Kept R x ⟨uO R.s (hd R x.a).1 n,R.hs,R.i,R.t⟩ 0:=by
 unfold qH at E;by_cases F:aP R.s (hd R x.a).1 (hd R x.a).2=0
 ·rw[ye F] at E;by_cases J:-1000000<=n/\n<=1000000
  ·obtain⟨wf,k,e,D,M,I⟩:=lC F;have O:uO R.s (hd R x.a).1 n=R.s.set k { nd R.s k with m:=n }:=(by unfold uO;rw[e,yk]);rw[O]
   exact
    {a:=ha,wf:=wf.mark D M J,len:=oac,hlen:=rfl,inn:=rfl,tld:=rfl,told:=fun h=>absurd rfl h,same:=fun h=>oaa,
     node:=⟨k,fun i hi=>by
      show mF _ (nd (R.s.set k _) i)\/(i=k/\(CO _ (nd (R.s.set k _) i)\/CQ _ (nd (R.s.set k _) i)\/UB _ (nd (R.s.set k _) i)));rw[iQ R.s k i _ D];split
      ·rename_i e;subst e;exact Or.inr ⟨rfl,Or.inr (Or.inr ⟨rfl,rfl,rfl⟩)⟩
      ·exact Or.inl mF.rfl⟩
     hand:=⟨0,fun i hi=>rfl⟩,mark:=fun _=>⟨k,e,D,M,I,hi,by rw[<- hn],rfl⟩,mild:=fun h1 T=>by omega }
  ·rw[yd J] at E;omega
 ·rw[yd F] at E;exact absurd E F
theorem gI{R:Rl}(h:bI R=0):WF R.s/\R.hs.length=16/\bF R.i=0/\R.t.length<=4800:=by
 unfold bI at h;by_cases h1:dG R.s=0
 ·rw[ye h1] at h;by_cases E:R.hs.length=16
  ·rw[ye E] at h;by_cases D:bF R.i=0
   ·rw[ye D] at h;by_cases F:4800<R.t.length
    ·rw[ye F] at h;omega
    ·exact⟨(mU _).1 h1,E,D,oaa⟩
   ·rw[yd D] at h;exact absurd h D
  ·rw[yd E] at h;omega
 ·rw[yd h1] at h;exact absurd h h1
theorem rW{R:Rl}(h1:WF R.s)(D:R.hs.length=16)(E:bF R.i=0)(F:R.t.length<=4800):bI R=0:=by
 unfold bI;rw[ye ((mU _).2 h1),ye D,ye E,yd oaa]
theorem Io{R:Rl}{x:Ac}(hc:bI R=0)(h:(doG R x).e=0):Kept R x (doG R x).r (doG R x).o:=by
 obtain⟨wf,a8,_,_⟩:=gI hc;have same:∃ q,∀ i,i≠q->R.hs.getD i (0,0)=R.hs.getD i (0,0):=⟨0,fun i _=>rfl⟩;have one:∀ (k:Nat) v,∃ q,∀ i,i≠q->(R.hs.set k v).getD i (0,0)=R.hs.getD i (0,0):=fun k v=>⟨k,fun i hi=>CS _ _ _ _ _ hi⟩;unfold doG at h |-;by_cases ha:isH x.a
 ·rw[ye ha] at h |-;by_cases k1:x.k=1
  ·rw[ye k1] at h |-;unfold xO at h |-;obtain⟨D,F⟩:=mE h;rw[F];obtain⟨_,ht,E,I,_⟩:=CJ D;have hp:=BI I;exact Kept.mildly ha (wf.make E I ht.1 ht.2) (JR E (Or.inl ⟨hp.1,rfl,rfl,rfl⟩)) oaa oaa _ oac (one _ _)
  rw[yd k1] at h |-;by_cases k2:x.k=2
  ·rw[ye k2] at h |-;unfold JN at h |-;obtain⟨D,F⟩:=mE h;rw[F];unfold xL at D;by_cases E:aP R.s (hd R x.a).1 (hd R x.a).2=0
   ·rw[ye E] at D;by_cases hl:nP R.s (hd R x.a).1.toNat
    ·obtain⟨_,k,e,M,hu,U⟩:=lC E;rw[e,yk] at hl |-;exact Kept.mildly ha (wf.free M hl) (JR M (Or.inr ⟨hu,rfl,rfl⟩)) oaa oaa _ rfl same
    ·rw[yd hl] at D;omega
   ·rw[yd E] at D;exact absurd D E
  rw[yd k2] at h |-;by_cases k4:x.k=4
  ·rw[ye k4] at h |-;unfold JO at h |-;obtain⟨D,F⟩:=mE h;rw[F];unfold xM at D;by_cases E:aP R.s (hd R x.a).1 (hd R x.a).2=0
   ·obtain⟨_,k,e,M,hu,U⟩:=lC E;rw[e,yk];exact Kept.mildly ha (wf.leaveG M) (xR (oM _ _) (fun i hi=>by obtain⟨a1,a2,a3,a4,a5,a6⟩:=uG R.s k i;exact⟨a1,a2,a4,a5⟩)) oaa oaa _ rfl same
   ·rw[yd E] at D;exact absurd D E
  rw[yd k4] at h |-;by_cases k6:x.k=6
  ·rw[ye k6] at h |-;unfold xP at h |-;rw[(mE h).2];exact Kept.asked ha wf oaa
  rw[yd k6] at h |-;by_cases k5:x.k=5
  ·rw[ye k5] at h |-;unfold qI at h |-;obtain⟨D,F⟩:=mE h;rw[F];exact Kept.marked ha D (Or.inl k5) (by rw[yd oaa]) (fun h=>oaa)
  rw[yd k5] at h |-;by_cases J:x.k=11
  ·rw[ye J] at h |-;unfold CK at h |-;by_cases hn:0<=x.n/\x.n<R.i.length
   ·rw[ye hn] at h |-;unfold qI at h |-;obtain⟨D,F⟩:=mE h;rw[F];exact Kept.marked ha D (Or.inr J) (by rw[ye J]) (fun _=>hn)
   ·rw[yd hn] at h;exact absurd h oae
  rw[yd J] at h |-;by_cases Z:x.k=14
  ·rw[ye Z] at h |-;unfold JP at h |-;rw[(mE h).2];exact Kept.asked ha wf oaa
  rw[yd Z] at h |-;by_cases a7:x.k=15
  ·rw[ye a7] at h |-;unfold JQ at h |-;rw[(mE h).2];exact Kept.asked ha wf oaa
  rw[yd a7] at h |-;by_cases kk:x.k=3\/x.k=7\/x.k=8
  ·rw[ye kk] at h |-;by_cases hb:isH x.b
   ·rw[ye hb] at h |-;by_cases k7:x.k=7
    ·rw[ye k7] at h |-;unfold xQ at h |-;obtain⟨D,F⟩:=mE h;rw[F];unfold oV at D;by_cases E:aP R.s (hd R x.a).1 (hd R x.a).2=0
     ·rw[ye E] at D;by_cases hl:iD R.s (hd R x.a).1=true
      ·rw[ye hl] at D;omega
      ·rw[yd hl] at D;obtain⟨_,k,e,M,hu,U⟩:=lC E;obtain⟨_,ht,E,I,_⟩:=CJ D;have hp:=BI I;unfold xN;rw[e] at hl |-;rw[yk];exact Kept.mildly ha (wf.attach _ E I M hu (by simpa using hl)) (JR E (Or.inl ⟨hp.1,rfl,rfl,rfl⟩)) oaa oaa _ oac (one _ _)
     ·rw[yd E] at D;exact absurd D E
    rw[yd k7] at h |-;by_cases k8:x.k=8
    ·rw[ye k8] at h |-;unfold aUp at h |-;rw[(mE h).2];exact Kept.mildly ha wf (xR rfl (fun i hi=>mF.rfl)) oaa oaa _ oac (one _ _)
    rw[yd k8] at h |-;by_cases O:x.c<0
    ·rw[ye O] at h |-;unfold nS at h |-;obtain⟨D,F⟩:=mE h;rw[F];exact Kept.mildly ha (CR D).1 (CR D).2 oaa oaa _ rfl same
    ·rw[yd O] at h |-;by_cases T:isH x.c
     ·rw[ye T] at h |-;unfold nS at h |-;obtain⟨D,F⟩:=mE h;rw[F];exact Kept.mildly ha (CR D).1 (CR D).2 oaa oaa _ rfl same
     ·rw[yd T] at h;exact absurd h oae
   ·rw[yd hb] at h;exact absurd h oae
  ·rw[yd kk] at h;exact absurd h oae
 ·rw[yd ha] at h;exact absurd h oae
theorem xS{R:Rl}{x:Ac}(h:(doF R x).e=0):bI R=0/\Kept R x (doF R x).r (doF R x).o/\bI (doF R x).r=0:=by
 by_cases hc:bI R=0
 ·have e:doF R x=doG R x:=ye hc;rw[e] at h |-;have k:=Io hc h;obtain⟨h1,D,E,F⟩:=gI hc;exact⟨hc,k,rW k.wf (k.hlen.trans D) (by rw[k.inn];exact E) (by rw[k.tld];exact F)⟩
 ·unfold doF at h;rw[yd hc] at h;exact absurd h hc
def uQ(q:Rs):Prop:=q.e≠0->q.r=dJ/\q.o=0
theorem Ip(E:Int)(R:Rl)(o:Int):uQ (ans E R o):=fun h=>by
 unfold ans at h |-;by_cases h0:E=0
 ·rw[ye h0] at h;exact absurd rfl h
 ·rw[yd h0];exact⟨rfl,rfl⟩
theorem Iq(E:Int):uQ (bad E):=fun _=>⟨rfl,rfl⟩
theorem Ir{c:Prop}[Decidable c]{a b:Rs}(ha:uQ a)(hb:uQ b):uQ (if c then a else b):=by
 by_cases h:c
 ·rw[ye h];exact ha
 ·rw[yd h];exact hb
theorem Iu(R:Rl)(x:Ac):uQ (doG R x):=by
 unfold doG xO JN JO xP CK qI JP JQ nS xQ aUp
 repeat' first|exact Ip _ _ _|exact Iq _|refine Ir ?_ ?_
theorem JS(E:Int):(bad E).r=dJ/\(bad E).o=0/\(bad E).e=E:=⟨rfl,rfl,rfl⟩
theorem CX:(prog.info? 3).map (fun i=>(i.zero,i.size,i.bytes))=some (some (.int .i64 0),1,8):=oad
theorem Iy(w:Wd):(zeroValue 3).run prog w=.ok (.int .i64 0) w:=oad
def lk(T:List Int):Lit->Option Value
 | .int .i64 k=>if k ∈ T then some (.int .i64 (at1 T k)) else none
 | _=>none
theorem JW(T:List Int)(k:Int):lk T (.int .i64 k)=if k ∈ T then some (.int .i64 (at1 T k)) else none:=rfl
theorem Iz{T:List Int}{k:Int}(h:k ∉ T):lk (T++[k]) (.int .i64 k)=some (.int .i64 (T.length:Int)):=by
 rw[JW,ye oac,TI h]
theorem Ja{T:List Int}{k:Int}(j:Lit)(h:j≠.int .i64 k):lk (T++[k]) j=lk T j:=by
 unfold lk;split
 ·rename_i x;have E:x≠k:=fun e=>h (by rw[e]);by_cases D:x ∈ T
  ·rw[ye (by simp[D]),ye D,JK D]
  ·rw[yd (by simp[D,E]),yd D]
 ·rfl
structure eY (w:Wd) (B bm bt mb n:Nat) (v:Value) (T:List Int):Prop where
 bmE:w.heap[bm]?=some (.cells #[.map (some mb)] 220 (0,0))
 btE:w.heap[bt]?=some (.cells #[v] 48 (0,0))
 mp:dU prog 3 w mb n (lk T)
 own:w.ownsRow B 3 1 v T.length (T.map (Value.int .i64))
def jO(D E:Nat)(v:Value):Nat->Prop:=fun j=>j=D\/j=E\/v.ownBlock=some j
structure dV (X:Nat->Prop) (w w' : World):Prop where
 os:w'.os=w.os
 tape:w'.tape=w.tape
 output:w'.output=w.output
 size:w.heap.size<=w'.heap.size
 block:∀ k,k<w.heap.size->¬ X k->w'.heap[k]?=w.heap[k]?
theorem dV.refl(X:Nat->Prop)(w:Wd):dV X w w:=⟨rfl,rfl,rfl,yr _,fun _ _ _=>rfl⟩
theorem dV.of_below(h:Bl w w'):dV X w w' :=⟨h.os,h.tape,h.output,h.size,fun k D _=>h.block k D⟩
theorem dV.below(h:dV X w w'){B:Nat}(F:B<=w.heap.size)(D:∀ k,X k->B<=k):Below B w w' :=
 ⟨h.os,h.tape,h.output,h.size,fun k I=>h.block k oaa (fun E=>by have:=D k E;omega)⟩
theorem dV.trans{Y:Nat->Prop}{a b c:Wd}(h:dV X a b)(k:dV Y b c)(D:∀ j,j<a.heap.size->Y j->X j):dV X a c :=
 ⟨k.os.trans h.os,k.tape.trans h.tape,k.output.trans h.output,yJ h.size k.size,fun i hi E=>(k.block i (yC hi h.size) (fun F=>E (D i hi F))).trans (h.block i hi E)⟩
def Later(w:Wd)(v D:Value):Prop:=D.ownBlock=v.ownBlock\/∃ j,D.ownBlock=some j/\w.heap.size<=j
theorem UD{k:Int}(h:(Lit.int .i64 k).wf=true):keyOf prog 3 (.int .i64 k)=some (.int .i64 k):=Maps.keyOf_int_mk underlying3 h
theorem CY(w:Wd)(D o:Nat)(v:Value)(E:X D):dV X w (w.setCell ⟨D,o,none⟩ v):=⟨rfl,rfl,rfl,by simp[World.setCell],fun k _ F=>yx _ _ _ _ (fun e=>F (by rw[e];exact E))⟩
theorem UE{r:Option Nat}(h:w.grownBy w' r)(D:∀ j,r=some j->X j):dV X w w' :=⟨h.os,h.tape,h.output,h.size,fun k E F=>h.block k E (fun e=>F (D k e.symm))⟩
theorem UF(B M D F n:Nat)(v:Value)(T:List Int)(k:Int)(w:Wd)(h:eY w B M D F n v T)(hk:(Lit.int .i64 k).wf=true)(hn:n<100000)(hT:T.length<100000)(hB:B<=w.heap.size) :
  yO 180 #[.int .i64 k,.pointer (some ⟨M,0,none⟩),.pointer (some ⟨D,0,none⟩)] w fun e w' => ∃ v', e=.returned (.int .i64 (at1 (bring T k) k))/\eY w' B M D F (n+1) v' (bring T k)/\Later w v v' /\ dV (jO D F v) w w' := by
 obtain⟨i0,b7,b9,c6,c7⟩:=info_parts CX;have c1:=cZ h.bmE;have c2:=cZ h.btE;obtain⟨pa,pc,hv,_⟩:=tO h.own;have I:=h.mp.look_ok (Maps.int_keyed underlying3) (t:=220) underlying220 (Iy w) (UD hk) trivial;by_cases hm:k ∈ T
 ·have e1:lk T (.int .i64 k)=some (.int .i64 (at1 T k)):=by rw[JW,ye hm]
  have e2:bring T k=T:=by unfold bring;rw[ye hm]
  rw[e1] at I;dsimp only[Option.getD,Option.isSome] at I;rw[e2];have a5:Hid (eY w B M D F (n+1) v T):=⟨h.bmE,h.btE,h.mp.mono oaa,h.own⟩;clear h e1 e2;generalize at1 T k=A at *
  go_enter func180,ntmps180
  go_wp2_with fail
  go_ret;exact⟨v,rfl,a5.out,Or.inl rfl,dV.refl _ _⟩
 ·have e1:lk T (.int .i64 k)=none:=by rw[JW,yd hm]
  have e2:bring T k=T++[k]:=by unfold bring;rw[yd hm]
  rw[e1] at I;dsimp only[Option.getD,Option.isSome] at I;rw[e2,TI hm];have a7:=h.mp.ne h.bmE;have a8:=h.mp.ne h.btE;obtain⟨w1,b0,b3,O⟩:=h.mp.put (Maps.int_keyed underlying3) (t:=220) underlying220 oai (UD hk) trivial (.int .i64 (T.length:Int));have b5:Hid (dU prog 3 w1 F (n+1) (lk (T++[k]))):=b3 _ (Iz hm) (fun j U=>Ja j U);have x1:w1.heap[M]?=some (.cells #[.map (some F)] 220 (0,0)):=(O.block M (aR h.bmE) (by intro e;exact a7 (Option.some.inj e))).trans h.bmE;have x2:w1.heap[D]?=some (.cells #[v] 48 (0,0)):=(O.block D (aR h.btE) (by intro e;exact a8 (Option.some.inj e))).trans h.btE
  have Z:∀ j,v.ownBlock=some j->j≠F/\j≠D/\j≠M:=fun j U=>by
   obtain⟨_,ho⟩:=h.own;rcases ho with ⟨rfl,_⟩ |⟨g,cap,c8,rfl,_,h2,_⟩
   ·cases U
   ·cases U;refine⟨h.mp.ne h2,?_,?_⟩
    ·intro e;have e:g=D:=e;rw[e,h.btE] at h2;cases h2
    ·intro e;have e:g=M:=e;rw[e,h.bmE] at h2;cases h2
  have OW:Hid (∀ o1,(w1.alloc o1).ownsRow B 3 1 v T.length (T.map (Value.int .i64))):=fun o1=>fG h.own (fun j U=>(Below.heap_alloc _ _ _ (yC (h.own.lt j U).2 O.size)).trans (O.block j (h.own.lt j U).2 (by intro e;exact(Z j U).1 (Option.some.inj e))));have NR:Hid (∀ j,v.ownBlock=some j->j≠F/\j≠D/\j≠M):=Z;have X1:Hid _:=x1;have X2:Hid _:=x2;have G1:Hid (w.grownBy w1 (some F)):=O;have LT:Hid (M<w.heap.size/\D<w.heap.size/\F<w.heap.size):=⟨aR h.bmE,aR h.btE,h.mp.lt⟩;have a9:Hid (M≠F/\D≠F/\M≠D):=⟨a7,a8,fun e=>by have h1:=h.bmE;rw[e,h.btE] at h1;cases h1⟩;have y1:=cZ x1;have y2:=cZ x2;have s1:=O.size;have b8:D<w1.heap.size:=aR x2;clear h b3 Z x1 x2 e1 e2 O hm a7 a8;subst hv;obtain⟨l,hl⟩:∃ z,T.length=z:=⟨_,rfl⟩;have HL:Hid (T.length=l):=hl;rw[hl] at OW b0 hT y2 X2 NR c2 |-;clear hl
  go_enter func180,ntmps180
  go_wp2_with (at_builtin;refine wpList_append_own_at _ rfl _ _ 48 rfl B 3 i0 (.int .i64 0) 1 8 underlying48 b7 b9 c6 c7 rfl oae (.slice pa l pc) l (T.map (Value.int .i64)) rfl ?how ⟨w1.heap.size,0,none⟩ 1 1 [.int .i64 k] rfl rfl ?c1 ?c2 ?c3 ?c4 ?c5 ?_)
  case how=>exact OW.out _
  case c1=>exact cell_one_new _ _ _
  case c2=>intro u hu;simp at hu;subst hu;rfl
  case c3=>unfold maxLen;omega
  case c4=>omega
  case c5=>simp;omega
  intro v2 w2 J E _ a6;have e6:(T++[k]).map (Value.int .i64)=T.map (Value.int .i64)++[.int .i64 k]:=oac
  rw[<- e6] at J;obtain⟨na,nc,b1,_⟩:=tO J;have e5:(T++[k]).length=l+1:=by simp[HL.out]
  rw[e5] at b1;subst b1;have b2:w2.heap[D]?=some (.cells #[.slice pa l pc] 48 (0,0)):=(E.block D oab (by intro e;exact(NR D e.symm).2.1 rfl)).trans ((Below.heap_alloc _ _ _ b8).trans X2);have y3:=cZ b2;have y4:=iB (o:=0) b2;have s2:=E.size;simp only[yw] at s2;have z2:D<w2.heap.size:=oaa
  have a5:Hid (eY (w2.setCell ⟨D,0,none⟩ (.slice na (l+1) nc)) B M D F (n+1) (.slice na (l+1) nc) (T++[k])):=by
   have kp:∀ j,j<w1.heap.size->(Value.slice pa l pc).ownBlock≠some j->j≠D->(w2.setCell ⟨D,0,none⟩ (.slice na (l+1) nc)).heap[j]?=w1.heap[j]?:=fun j h1 h2 h3 =>
    (yx _ _ _ _ h3).trans ((E.block j oab (fun e=>h2 e.symm)).trans (Below.heap_alloc _ _ _ h1))
   have ob:=J.lt;refine⟨(kp M (by have:=LT.out.1;omega) (fun e=>(NR M e).2.2 rfl) a9.out.2.2).trans X1,wN b2,b5.kept (kp F (by have:=LT.out.2.2;omega) (fun e=>(NR F e).1 rfl) (fun e=>a9.out.2.1 e.symm)),?_⟩;rw[e5];refine fG J (fun j U=>yx _ _ _ _ ?_);intro e;have e:j=D:=e;subst e;rcases a6 with h1|h1
   ·rw[h1] at U;exact(NR j U).2.1 rfl
   ·rw[h1] at U;have:=Option.some.inj U
    first|omega|(simp only[yw] at this;omega)
  have b4:Hid (Later w (.slice pa l pc) (.slice na (l+1) nc)):=by
   rcases a6 with h1|h1
   ·exact Or.inl h1
   ·exact Or.inr ⟨_,h1,by first|omega|(simp;omega)⟩
  have b6:Hid (dV (jO D F (.slice pa l pc)) w (w2.setCell ⟨D,0,none⟩ (.slice na (l+1) nc))):=by
   refine dV.trans (Y:=jO D F (.slice pa l pc)) (UE G1.out (fun j e=>Or.inr (Or.inl (Option.some.inj e).symm))) ?_ (fun _ _ h=>h);have g2:dV (jO D F (.slice pa l pc)) _ w2:=UE E (fun j e=>Or.inr (Or.inr e));have g3:=dV.trans (X:=jO D F (.slice pa l pc)) (Y:=jO D F (.slice pa l pc)) (dV.of_below (aB w1 _)) g2 (fun _ _ h=>h);exact dV.trans (Y:=jO D F (.slice pa l pc)) g3 (CY _ _ _ _ (Or.inl rfl)) (fun _ _ h=>h)
  clear J E a6 b2 e5 e6
  go_wp2_with fail
  go_ret;exact⟨_,rfl,a5.out,b4.out,b6.out⟩
