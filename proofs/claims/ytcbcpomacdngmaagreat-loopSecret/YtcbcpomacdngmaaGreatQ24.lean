/-
  x
-/
import Derived.Test.YtcbcpomacdngmaaGreatQ23
namespace Go.Proofs.YtcbcpomacdngmaaGreat
set_option maxRecDepth 100000
set_option maxHeartbeats 4000000
set_option linter.unusedVariables false
open Go.RowKit
theorem zoa(a:Option Addr)(c:Nat)(S:List Nd)(p u E:Int)(cl:Bool)(w:World)(hN:S.length<=9223372036854775807)(Z:Big S)(hS:zai w a S)(hE:zaz S p u=E)(J:E≠0) :
  Calls Tryz.prog 193 #[.agg #[.slice a S.length c],.agg #[.int .i64 p,.int .i64 u],.bool cl] w fun e w' => e=.returned (.tuple #[.agg #[.slice none 0 0],.agg #[.int .i64 0,.int .i64 0],.int .i64 E])/\Below w.heap.size w w' := by
 have D0:Hid (∀ W,zai W a S->Calls _ _ _ _ _):=fun W hW=>ziM a c S p u E W hN Z hW hE J;have HS:Hid (zai w a S):=hS;have a5:(E == 0)=false:=by simp[J]
 clear hS hE Z hN;generalize S.length=n at *;have BW:Hid (∀ W,Below (w.heap.size+1+1+1+1) ((((w.alloc (.cells #[.slice a n c] 43)).alloc (.cells #[.int .i64 p,.int .i64 u] 61)).alloc (.cells #[.slice none 0 0] 43)).alloc (.cells #[.int .i64 0,.int .i64 0] 61)) W->Below w.heap.size w W):=fun W h=>(zaH _ _ _ _ _).trans (h.mono (by omega))
 go_enter Tryz.func193,Tryz.ntmps193
 go_wp2_with fail
 refine yi (D0.out _ (HS.out.below (zaH _ _ _ _ _))) ?_;rintro e M ⟨rfl,F⟩;simp only[ys] at F;have O:Hid (Below (w.heap.size+1+1+1+1) ((((w.alloc (.cells #[.slice a n c] 43)).alloc (.cells #[.int .i64 p,.int .i64 u] 61)).alloc (.cells #[.slice none 0 0] 43)).alloc (.cells #[.int .i64 0,.int .i64 0] 61)) M):=F;have U:=F.size;simp only[ys] at U;obtain⟨l0,l1,l2,l3,l4,l5,l6,l7⟩:=zeD F;have q0:w.heap.size<M.heap.size:=by omega
 have q1:w.heap.size+1<M.heap.size:=by omega
 have q2:w.heap.size+1+1<M.heap.size:=by omega
 have q3:w.heap.size+1+1+1<M.heap.size:=by omega
 clear F;have I:Hid _:=O
 go_wp2
 refine yw (v:=.tuple #[.agg #[.slice none 0 0],.agg #[.int .i64 0,.int .i64 0],.int .i64 E]) (by simp only[results,Tryz.results193];go_simp) rfl ⟨rfl,?_⟩;have D:=BW.out _ I.out;have T:=I.out.size;simp only[ys] at T
 first
  | exact((D.setCell (by simp;omega) _).setCell (by simp;omega) _).setCell (by simp;omega) _
  | exact(((D.setCell (by simp;omega) _).setCell (by simp;omega) _).setCell (by simp;omega) _).drew
  | exact(((D.alloc (by omega) _).setCell (by simp;omega) _).setCell (by simp;omega) _).setCell (by simp;omega) _
  | exact(((D.setCell (by simp;omega) _).setCell (by simp;omega) _).setCell (by simp;omega) _).alloc (by simp;omega) _
  | exact((((D.alloc (by omega) _).alloc (by simp;omega) _).setCell (by simp;omega) _).setCell (by simp;omega) _).setCell (by simp;omega) _
  | exact((((D.setCell (by simp;omega) _).setCell (by simp;omega) _).setCell (by simp;omega) _).alloc (by simp;omega) _).alloc (by simp;omega) _
theorem zob(a:Option Addr)(c:Nat)(S:List Nd)(k:Nat)(u:Int)(cl:Bool)(w:World)(wf:WF S)(hS:zai w a S)(hk:k<S.length)(hE:zaz S k u=0)(hH:zfy S k=true) :
  Calls Tryz.prog 193 #[.agg #[.slice a S.length c],.agg #[.int .i64 (k:Int),.int .i64 u],.bool cl] w fun e w' => e=.returned (.tuple #[.agg #[.slice none 0 0],.agg #[.int .i64 0,.int .i64 0],.int .i64 6])/\Below w.heap.size w w' := by
 have hN:=wf.small;have D0:Hid (∀ W,zai W a S->Calls _ _ _ _ _):=fun W U=>find_ok a c S k u W (by omega) wf.big U hk hE (by have:=wf.kids_small hk;omega);have d1:=fun W U=>zej a c S (k:Int) W (by omega) U (by omega);rw[hH] at d1;have D1:Hid _:=d1;have HS:Hid (zai w a S):=hS;clear hS wf hE hH d1;obtain⟨x0,O⟩:∃ x,nd S k=x:=⟨_,rfl⟩;rw[O] at D0;clear O;generalize S.length=n at *;have BW:Hid (∀ W,Below (w.heap.size+1+1+1+1) ((((w.alloc (.cells #[.slice a n c] 43)).alloc (.cells #[.int .i64 (k:Int),.int .i64 u] 61)).alloc (.cells #[.slice none 0 0] 43)).alloc (.cells #[.int .i64 0,.int .i64 0] 61)) W->Below w.heap.size w W):=fun W h=>(zaH _ _ _ _ _).trans (h.mono (by omega))
 go_enter Tryz.func193,Tryz.ntmps193
 go_wp2_with fail
 refine yi (D0.out _ (HS.out.below (zaH _ _ _ _ _))) ?_;rintro e T ⟨fg,rfl,E,_⟩;simp only[ys] at E;have I:Hid (Below (w.heap.size+1+1+1+1) ((((w.alloc (.cells #[.slice a n c] 43)).alloc (.cells #[.int .i64 (k:Int),.int .i64 u] 61)).alloc (.cells #[.slice none 0 0] 43)).alloc (.cells #[.int .i64 0,.int .i64 0] 61)) T):=E;have a5:=E.size;simp only[ys] at a5;obtain⟨l0,l1,l2,l3,l4,l5,l6,l7⟩:=zeD E;have q0:w.heap.size<T.heap.size:=by omega
 have q1:w.heap.size+1<T.heap.size:=by omega
 have q2:w.heap.size+1+1<T.heap.size:=by omega
 have q3:w.heap.size+1+1+1<T.heap.size:=by omega
 clear E
 go_wp2_with fail
 refine yi (D1.out _ (HS.out.below (BW.out _ (I.out.alloc (by omega) _)))) ?_;rintro e w3 ⟨rfl,F⟩;simp only[ys] at F;have J:Hid (Below (w.heap.size+1+1+1+1) ((((w.alloc (.cells #[.slice a n c] 43)).alloc (.cells #[.int .i64 (k:Int),.int .i64 u] 61)).alloc (.cells #[.slice none 0 0] 43)).alloc (.cells #[.int .i64 0,.int .i64 0] 61)) w3):=(I.out.alloc (by omega) _).trans (F.mono (by omega));have a6:=F.size;simp only[ys] at a6;clear F l0 l1 l2 l3 l4 l5 l6 l7 q0 q1 q2 q3;obtain⟨l0,l1,l2,l3,l4,l5,l6,l7⟩:=zeD J.out;have q0:w.heap.size<w3.heap.size:=by omega
 have q1:w.heap.size+1<w3.heap.size:=by omega
 have q2:w.heap.size+1+1<w3.heap.size:=by omega
 have q3:w.heap.size+1+1+1<w3.heap.size:=by omega
 have M:Hid _:=J
 go_wp2
 refine yw (v:=.tuple #[.agg #[.slice none 0 0],.agg #[.int .i64 0,.int .i64 0],.int .i64 6]) (by simp only[results,Tryz.results193];go_simp) rfl ⟨rfl,?_⟩;have D:=BW.out _ M.out;have Z:=M.out.size;simp only[ys] at Z
 first
  | exact((D.setCell (by simp;omega) _).setCell (by simp;omega) _).setCell (by simp;omega) _
  | exact(((D.setCell (by simp;omega) _).setCell (by simp;omega) _).setCell (by simp;omega) _).drew
  | exact(((D.alloc (by omega) _).setCell (by simp;omega) _).setCell (by simp;omega) _).setCell (by simp;omega) _
  | exact(((D.setCell (by simp;omega) _).setCell (by simp;omega) _).setCell (by simp;omega) _).alloc (by simp;omega) _
  | exact((((D.alloc (by omega) _).alloc (by simp;omega) _).setCell (by simp;omega) _).setCell (by simp;omega) _).setCell (by simp;omega) _
  | exact((((D.setCell (by simp;omega) _).setCell (by simp;omega) _).setCell (by simp;omega) _).alloc (by simp;omega) _).alloc (by simp;omega) _
theorem zoc(a:Option Addr)(c:Nat)(S:List Nd)(k:Nat)(u E:Int)(cl:Bool)(w:World)(wf:WF S)(hS:zai w a S)(hk:k<S.length)(hE:zaz S k u=0)(hH:zfy S k=false)(hM:zfA S 0=E)(Z:E≠0) :
  Calls Tryz.prog 193 #[.agg #[.slice a S.length c],.agg #[.int .i64 (k:Int),.int .i64 u],.bool cl] w fun e w' => e=.returned (.tuple #[.agg #[.slice none 0 0],.agg #[.int .i64 0,.int .i64 0],.int .i64 E])/\Below w.heap.size w w' := by
 have hN:=wf.small;have D0:Hid (∀ W,zai W a S->Calls _ _ _ _ _):=fun W hW=>find_ok a c S k u W (by omega) wf.big hW hk hE (by have:=wf.kids_small hk;omega);have d1:=fun W hW=>zej a c S (k:Int) W (by omega) hW (by omega);rw[hH] at d1;have D1:Hid _:=d1;have D2:Hid (∀ W,zai W a S->Calls _ _ _ _ _):=fun W hW=>zpT a c S 0 E W (by omega) wf.big hW hM Z;have HS:Hid (zai w a S):=hS;have b0:(E == 0)=false:=by simp[Z]
 clear hS wf hE hH d1 hM;obtain⟨x0,a5⟩:∃ x,nd S k=x:=⟨_,rfl⟩;rw[a5] at D0;clear a5;generalize S.length=n at *;have BW:Hid (∀ W,Below (w.heap.size+1+1+1+1) ((((w.alloc (.cells #[.slice a n c] 43)).alloc (.cells #[.int .i64 (k:Int),.int .i64 u] 61)).alloc (.cells #[.slice none 0 0] 43)).alloc (.cells #[.int .i64 0,.int .i64 0] 61)) W->Below w.heap.size w W):=fun W h=>(zaH _ _ _ _ _).trans (h.mono (by omega))
 go_enter Tryz.func193,Tryz.ntmps193
 go_wp2_with fail
 refine yi (D0.out _ (HS.out.below (zaH _ _ _ _ _))) ?_;rintro e w2 ⟨fg,rfl,F,_⟩;simp only[ys] at F;have O:Hid (Below (w.heap.size+1+1+1+1) ((((w.alloc (.cells #[.slice a n c] 43)).alloc (.cells #[.int .i64 (k:Int),.int .i64 u] 61)).alloc (.cells #[.slice none 0 0] 43)).alloc (.cells #[.int .i64 0,.int .i64 0] 61)) w2):=F;have a7:=F.size;simp only[ys] at a7;obtain⟨l0,l1,l2,l3,l4,l5,l6,l7⟩:=zeD F;have q0:w.heap.size<w2.heap.size:=by omega
 have q1:w.heap.size+1<w2.heap.size:=by omega
 have q2:w.heap.size+1+1<w2.heap.size:=by omega
 have q3:w.heap.size+1+1+1<w2.heap.size:=by omega
 clear F
 go_wp2_with fail
 refine yi (D1.out _ (HS.out.below (BW.out _ (O.out.alloc (by omega) _)))) ?_;rintro e w3 ⟨rfl,I⟩;simp only[ys] at I;have J:Hid (Below (w.heap.size+1+1+1+1) ((((w.alloc (.cells #[.slice a n c] 43)).alloc (.cells #[.int .i64 (k:Int),.int .i64 u] 61)).alloc (.cells #[.slice none 0 0] 43)).alloc (.cells #[.int .i64 0,.int .i64 0] 61)) w3):=(O.out.alloc (by omega) _).trans (I.mono (by omega));have a8:=I.size;simp only[ys] at a8;clear I l0 l1 l2 l3 l4 l5 l6 l7 q0 q1 q2 q3;obtain⟨l0,l1,l2,l3,l4,l5,l6,l7⟩:=zeD J.out;have q0:w.heap.size<w3.heap.size:=by omega
 have q1:w.heap.size+1<w3.heap.size:=by omega
 have q2:w.heap.size+1+1<w3.heap.size:=by omega
 have q3:w.heap.size+1+1+1<w3.heap.size:=by omega
 go_wp2_with fail
 refine yi (D2.out _ (HS.out.below (BW.out _ J.out))) ?_;rintro e w4 ⟨rfl,M⟩;have T:Hid (Below (w.heap.size+1+1+1+1) ((((w.alloc (.cells #[.slice a n c] 43)).alloc (.cells #[.int .i64 (k:Int),.int .i64 u] 61)).alloc (.cells #[.slice none 0 0] 43)).alloc (.cells #[.int .i64 0,.int .i64 0] 61)) w4):=J.out.trans (M.mono (by omega));have a9:=M.size;clear M l0 l1 l2 l3 l4 l5 l6 l7 q0 q1 q2 q3;obtain⟨l0,l1,l2,l3,l4,l5,l6,l7⟩:=zeD T.out;have q0:w.heap.size<w4.heap.size:=by omega
 have q1:w.heap.size+1<w4.heap.size:=by omega
 have q2:w.heap.size+1+1<w4.heap.size:=by omega
 have q3:w.heap.size+1+1+1<w4.heap.size:=by omega
 have U:Hid _:=T
 go_wp2
 refine yw (v:=.tuple #[.agg #[.slice none 0 0],.agg #[.int .i64 0,.int .i64 0],.int .i64 E]) (by simp only[results,Tryz.results193];go_simp) rfl ⟨rfl,?_⟩;have D:=BW.out _ U.out;have a6:=U.out.size;simp only[ys] at a6
 first
  | exact((D.setCell (by simp;omega) _).setCell (by simp;omega) _).setCell (by simp;omega) _
  | exact(((D.setCell (by simp;omega) _).setCell (by simp;omega) _).setCell (by simp;omega) _).drew
  | exact(((D.alloc (by omega) _).setCell (by simp;omega) _).setCell (by simp;omega) _).setCell (by simp;omega) _
  | exact(((D.setCell (by simp;omega) _).setCell (by simp;omega) _).setCell (by simp;omega) _).alloc (by simp;omega) _
  | exact((((D.alloc (by omega) _).alloc (by simp;omega) _).setCell (by simp;omega) _).setCell (by simp;omega) _).setCell (by simp;omega) _
  | exact((((D.setCell (by simp;omega) _).setCell (by simp;omega) _).setCell (by simp;omega) _).alloc (by simp;omega) _).alloc (by simp;omega) _
def rS(E:Int)(T:List Nd):List Nd:=if E=0 then T else []
def rH(E:Int)(h:Int × Int):Int × Int:=if E=0 then h else (0,0)
theorem zic{T:List Nd}:rS 0 T=T:=rfl
theorem zjF{E:Int}{T:List Nd}(h:E≠0):rS E T=[]:=ya h
theorem zxl{E:Int}{T:Int × Int}(h:E≠0):rH E T=(0,0):=ya h
theorem zdM(W:World):zai W none []:=fun _ hi=>absurd hi (yx _)
abbrev znW(f:Nat)(S T:List Nd)(more:Array Value)(E:Int):Prop:=∀ (a:Option Addr) (c:Nat) W,zai W a S ->
 Calls Tryz.prog f (#[.agg #[.slice a S.length c]] ++ more) W fun e w' => ∃ D F,e=.returned (.tuple #[.agg #[.slice D T.length F],.int .i64 E])/\Below W.heap.size W w' /\ St (fun b=>b<W.heap.size) (fun V=>zai V D T) w'
theorem zzm{w' : World}{a:Option Addr}{T:List Nd}{B g:Nat}(hg:B<=g)(hn:∀ w3:World,(∀ b,g<=b->w3.heap[b]?=w'.heap[b]?)->zai w3 a T):St (fun b=>b<B) (fun V=>zai V a T) w' := fun V E=>by
 have e:∀ b,b<w'.heap.size->(V.heap.extract 0 w'.heap.size)[b]?=V.heap[b]?:=fun b F=>by
  have:=E.size;simp[Array.getElem?_extract];omega
 have h:=hn { V with heap:=V.heap.extract 0 w'.heap.size } (fun b F=>by
  show (V.heap.extract 0 w'.heap.size)[b]?=w'.heap[b]?;by_cases h1:b<w'.heap.size
  ·rw[e b h1];exact E.block b h1 (by show ¬ b<B;omega)
  ·rw[Array.getElem?_eq_none (by simp;omega),Array.getElem?_eq_none (by omega)])
 have D:(V.heap.extract 0 w'.heap.size).size=w'.heap.size:=by have:=E.size;simp;omega
 exact h.below ⟨rfl,rfl,rfl,by show (V.heap.extract 0 w'.heap.size).size<=_;rw[D];exact E.size,fun b F=>(e b (by rw[<- D];exact F)).symm⟩
abbrev hdV(h:Int × Int):Value:=.agg #[.int .i64 h.1,.int .i64 h.2]
def zvy(f:Nat):Prop:=∀ (S:List Nd) (h:Int × Int),WF S->znW f S (rS (zts S h.1 h.2) (S.set h.1.toNat (zdc (nd S h.1.toNat)))) #[hdV h] (zts S h.1 h.2)
def zqE(f:Nat):Prop:=∀ (S:List Nd) (h:Int × Int),WF S->znW f S (rS (zAE S h.1 h.2) (leaveG S h.1.toNat)) #[hdV h] (zAE S h.1 h.2)
def zqC(f:Nat):Prop:=∀ (S:List Nd) (h g:Int × Int) (hs:List (Int × Int)) (ha:Option Addr) (hc:Nat),WF S->hs.length<=1->∀ (a:Option Addr) (c:Nat) W,zai W a S->zau W ha hs ->
 Calls Tryz.prog f #[.agg #[.slice a S.length c],hdV h,hdV g,.slice ha hs.length hc] W fun e w' => ∃ D E,e=.returned (.tuple #[.agg #[.slice D (rS (zkd S h.1 h.2 g.1 g.2 hs) (zpO S h.1 g.1 hs)).length E],.int .i64 (zkd S h.1 h.2 g.1 g.2 hs)])/\Below W.heap.size W w' /\ St (fun b=>b<W.heap.size) (fun V=>zai V D (rS (zkd S h.1 h.2 g.1 g.2 hs) (zpO S h.1 g.1 hs))) w'
def zvx(f:Nat):Prop:=∀ (S:List Nd) (h:Int × Int) (t m:Int) (qa:Option Addr) (qc:Nat),WF S->∀ (a:Option Addr) (c:Nat) W,zai W a S->zcn W qa [⟨t,m,false⟩] ->
 Calls Tryz.prog f #[.agg #[.slice a S.length c],hdV h,.slice qa 1 qc] W fun e w' => ∃ D E n,e=.returned (.tuple #[.slice D n E,.int .i64 (zys S h.1 h.2 [⟨t,m,false⟩])])/\Below W.heap.size W w' /\ n=if zys S h.1 h.2 [⟨t,m,false⟩]=0 then (zhd S h.1.toNat [⟨t,m,false⟩]).length else 0
def zyd(f:Nat):Prop:=∀ (S:List Nd) (h:Int × Int),WF S->∀ (a:Option Addr) (c:Nat) W,zai W a S ->
 Calls Tryz.prog f #[.agg #[.slice a S.length c],hdV h] W fun e w' => ∃ D E n,e=.returned (.tuple #[.slice D n E,.int .i64 (zaz S h.1 h.2)])/\Below W.heap.size W w' /\ n=if zaz S h.1 h.2=0 then (zje S h.1.toNat).length else 0
theorem zfM(S:List Nd)(p u:Int):zaZ S [(p,u)]=zaz S p u:=by
 unfold zaZ zaz zfs zfs;by_cases h:zcV S p u=0
 ·simp[h]
 ·simp[h]
theorem zxX{S:List Nd}(wf:WF S){D:Nat}(hch:D<S.length):(nd S D).p = -1\/∃ E:Nat,E<S.length/\E≠D/\(nd S D).p=E:=by
 by_cases e:(nd S D).p = -1
 ·exact Or.inl e
 ·obtain⟨E,F,g1,g2,_⟩:=wf.parent_place hch e;exact Or.inr ⟨E,g1,g2,F⟩
theorem zdB{S:List Nd}(wf:WF S):∀ i,i<S.length->(nd S i).ks.length<=1000:=fun i hi=>by have:=wf.kids_small hi;omega
theorem zwf:zvy 167:=fun S h wf a c W I=>by
 obtain⟨P,U⟩:=h;dsimp only[hdV];have M:S.length<=9223372036854775807:=by have:=wf.small;omega
 unfold zts;by_cases D:zaz S P U=0
 ·rw[yd D];obtain⟨_,k,e,J,T,O⟩:=zcI D;subst e;rw[yj];by_cases hl:zgn S k
  ·rw[yd hl,zic];refine(zyH a c S k U W wf.small (zdB wf) I J D hl).mono (fun e w' ⟨g,E,F,hg,hn⟩=>⟨some ⟨g,0,none⟩,S.length,?_,F,zzm hg hn⟩);rw[E,List.length_set]
  ·rw[ya hl,zjF (by decide)];exact(ztt a c S k U W M wf.big I J D (by have:=zdB wf k J;omega) hl).mono (fun e w' ⟨E,F⟩=>⟨none,0,E,F,fun V _=>zdM V⟩)
 ·rw[ya D,zjF D];exact(zwg a c S P U _ W M wf.big I rfl D).mono (fun e w' ⟨E,F⟩=>⟨none,0,E,F,fun V _=>zdM V⟩)
theorem zrO:zqE 168:=fun S h wf a c W J=>by
 obtain⟨P,U⟩:=h;dsimp only[hdV];have Z:S.length<=9223372036854775807:=by have:=wf.small;omega
 unfold zAE;by_cases D:zaz S P U=0
 ·rw[yd D];obtain⟨_,k,e,M,hu,a5⟩:=zcI D;subst e;rw[yj];have hT:zaZ S [((k:Int),U)]=0:=(zfM _ _ _).trans D;rcases zxX wf M with hp |⟨p0,O,T,I⟩
  ·rw[yd hp,zjF (by decide)];exact(zpf a c S k U W Z wf.big J hT M hp).mono (fun e w' ⟨E,F⟩=>⟨none,0,E,F,fun V _=>zdM V⟩)
  ·have hG:leaveG S k=zbH S p0 k:=by unfold leaveG;rw[ya (by omega),I,yj]
   rw[ya (by omega),zic,hG];refine(zuU a c S k p0 U W wf.small wf.big J hT M O T I (zdB wf)).mono (fun e w' ⟨g,E,F,hg,hn⟩=>⟨some ⟨g,0,none⟩,S.length,?_,F,zzm hg hn⟩);rw[E,zbL]
 ·rw[ya D,zjF D];exact(zrP a c S P U _ W Z wf.big J (zfM _ _ _) D).mono (fun e w' ⟨E,F⟩=>⟨none,0,E,F,fun V _=>zdM V⟩)
theorem zxD{S:List Nd}{P J C E:Int}{hs:List (Int × Int)}(wf:WF S)(hm:hs.length<=1):zss S (rS (zkd S P J C E hs) (zpO S P C hs)) P C E hs (zaZ S ((P,J) ::(C,E) :: hs)) (zkd S P J C E hs):=by
 by_cases F:zaZ S ((P,J) ::(C,E) :: hs)=0
 ·obtain⟨_,O⟩:=zvi F;obtain⟨pa,e1,hpa,hpu,a9⟩:=O (P,J) (by simp);obtain⟨T,e2,hch,hcu,a6⟩:=O (C,E) (by simp);dsimp only at e1 e2 a9 a6;subst e1;subst e2;have hK:=zdB wf;refine .inr ⟨pa,T,rfl,rfl,F,wf.small,hpa,hch,fun Z=>?_,fun Z=>⟨fun h hh=>?_,?_⟩⟩
  ·have e:zkd S pa J T E hs=6:=by unfold zkd;rw[yd F,yj,yj,ya (by rw[Z];decide)]
   rw[e];exact⟨rfl,zjF (by decide)⟩
  ·obtain⟨q,e,hq,_⟩:=O h (by simp[hh]);exact⟨q,e,hq⟩
  ·have pt:zzC S pa T:=⟨wf,hpa,hch,hpu,hcu,Z⟩;obtain⟨f1,f2,f3⟩:=zkR Z;have hl:=zbk S T;have a5:=zxX wf hch;unfold zkd zpO;rw[yd F];simp only[yj];rw[yd Z]
   match hs,hm,F,O with
   | [],_,F,O =>
    exact⟨fun⟨h,hh,_⟩=>(by cases hh),fun _=>⟨rfl,hK,by rw[zic,zbt,hl],.inr ⟨by simp,f2,a5,(nd (leaveG S T) pa).ks.length,rfl,by omega,zic⟩⟩⟩
   | [(Q,qu)],_,F,O =>
    obtain⟨q,e3,hq,b3,b0⟩:=O (Q,qu) (by simp);dsimp only at e3 b0;subst e3;dsimp only;rw[yj]
    have I:∀ h ∈ [((q:Int),qu)],(nd S h.1.toNat).p=(nd S q).p:=fun h hh=>by
     have:h=((q:Int),qu):=by simpa using hh
     subst this;rw[yj]
    by_cases D:(nd S q).p=pa
    ·rw[yd D,zic];refine⟨fun⟨h,hh,a8⟩=>absurd ((I h hh).trans D) a8,fun _=>?_⟩;by_cases M:q=T
     ·subst M;have a7:E=qu:=by omega
      subst a7;rw[yd rfl];exact⟨rfl,hK,rfl,.inl ⟨List.mem_singleton.2 rfl,rfl⟩⟩
     ·rw[ya (by omega)];obtain⟨at', U,b1,b2⟩:=pt.ahead hq D M;rw[U,yj];exact⟨rfl,hK,by rw[zbt,hl],.inr ⟨fun e=>M (by have:=congrArg Prod.fst (List.mem_singleton.1 e);simp at this;omega),f2,a5,at', U,by omega,rfl⟩⟩
    ·rw[ya D];exact⟨fun _=>⟨rfl,zjF (by decide)⟩,fun h=>absurd ((I _ (List.mem_singleton.2 rfl)).symm.trans (h _ (List.mem_singleton.2 rfl))) D⟩
   | _ :: _ :: _,h,_,_=>exact absurd h (by simp)
 ·have e:zkd S P J C E hs=zaZ S ((P,J) ::(C,E) :: hs):=by unfold zkd;rw[ya F]
  exact .inl ⟨F,e,by rw[e,zjF F]⟩
theorem zkU:zqC 192:=fun S h g hs ha hc wf D a c W M J =>
 (zri a c S h.1 g.1 h.2 g.2 ha hc hs _ _ _ W (by have:=wf.small;omega) wf.big M J D rfl (zxD wf D)).mono (fun e w' ⟨E,F,I,O,hn⟩=>⟨E,F,I,O,zzm (yk _) hn⟩)
theorem ztf:zvx 189:=fun S h t m qa qc wf a c W J M=>by
 obtain⟨P,U⟩:=h;dsimp only[hdV];have Z:S.length<=9223372036854775807:=by have:=wf.small;omega
 unfold zys;by_cases D:zaz S P U=0
 ·rw[yd D];obtain⟨_,k,e,O,hu,a5⟩:=zcI D;subst e;rw[yj];by_cases I:zfJ [⟨t,m,false⟩]=0
  ·rw[I,yd rfl];exact(zxj a c S k U qa qc [⟨t,m,false⟩] W wf O hu ((zfM _ _ _).trans D) J M I).mono (fun e w' ⟨T,fc,E,F,hi,_⟩=>⟨T,fc,_,E,F,rfl⟩)
  ·rw[ya I];exact(zuN a c S k U _ qa qc [⟨t,m,false⟩] W wf O ((zfM _ _ _).trans D) J (by simp) M rfl I).mono (fun e w' ⟨E,F⟩=>⟨none,0,0,E,F,rfl⟩)
 ·rw[ya D,ya D];exact(zuO a c S P U _ _ W Z wf.big J (zfM _ _ _) D).mono (fun e w' ⟨E,F⟩=>⟨none,0,0,E,F,rfl⟩)
theorem zwd:zyd 190:=fun S h wf a c W I=>by
 obtain⟨P,U⟩:=h;dsimp only[hdV];have J:S.length<=9223372036854775807:=by have:=wf.small;omega
 by_cases D:zaz S P U=0
 ·obtain⟨_,k,e,M,T,O⟩:=zcI D;subst e;rw[yj,D,yd rfl];exact(zyF a c S k U W wf I M D).mono (fun e w' ⟨sa,sc,E,F,hi⟩=>⟨sa,sc,_,E,F,rfl⟩)
 ·rw[ya D];exact(zwe a c S P U _ W J wf.big I rfl D).mono (fun e w' ⟨E,F⟩=>⟨none,0,0,E,F,rfl⟩)
end Go.Proofs.YtcbcpomacdngmaaGreat
