/-
  x
-/
import Derived.Test.YtcbcpomacdngmaaGreatA18
namespace Go.Proofs.YtcbcpomacdngmaaGreat
set_option maxRecDepth 100000
set_option maxHeartbeats 4000000
set_option linter.unusedVariables false
open Go.RowKit Tryz
variable{L:List Fr}{o f t x k:Int}{w:Wd}{i g N:Nat}
theorem KI:(prog.info? 65).map (fun i=>(i.zero,i.size,i.bytes))=some (some (.agg #[.int .i64 0,.int .i64 0,.int .i64 0,.int .i64 0,.bool false]),5,40):=oad
def lG:Array Value:=#[.int .i64 0,.int .i64 0,.int .i64 0,.int .i64 0,.bool false]
theorem UW(n:Nat)(hn:n<=24)(w:Wd):(Instr.makeSlice 22 (.int .i64 (n:Int)) (.int .i64 (n:Int))).run prog w=.ok (.slice (some ⟨w.heap.size,0,none⟩) n n) (w.alloc (.cells (madeCells lG (n*5)) 65)):=by
 obtain⟨i,hi,D,E,F⟩:=info_parts KI;have h:=run_make (P:=prog) w 22 65 i _ underlying22 hi D .i64 .i64 n n oaa oaa (by rw[F];omega) oaa;rw[E] at h;simp only[yk] at h;exact h
def KJ(x:Fr):Nat->Value
 | 0=>.int .i64 x.p
 | 1=>.int .i64 x.o
 | 2=>.int .i64 x.m
 | 3=>.int .i64 x.t
 | _=>.bool x.g
def frF(L:List Fr)(m:Nat):Value:=KJ (fr L (m / 5)) (m % 5)
theorem jT(L:List Fr)(i j:Nat)(D:j<5):frF L (i*5+j)=KJ (fr L i) j:=by
 unfold frF;rw[show (i*5+j) % 5=j by omega,show (i*5+j) / 5=i by omega]
theorem DZ{M:List Fr}{m:Nat}(h:fr L (m / 5)=fr M (m / 5)):frF L m=frF M m:=by
 unfold frF;rw[h]
theorem Kn(L:List Fr)(m:Nat):(frF L m).oneCell' = true:=by
 unfold frF KJ
 split <;> rfl
theorem row_of{t:Nat}{X:List Value}(h:w.heap[g]?=some (.cells X.toArray t (0,0))):w.rowIs g t X.length (fun i=>X.getD i (.bool false)) :=
 ⟨X.toArray,h,oac,fun i hi=>by simp[hi]⟩
theorem KP{F:Nat->Value}(h:w.rowIs g 65 N F)(hl:L.length*5<=N)(D:∀ m,m<L.length*5->F m=frF L m):aS w (some ⟨g,0,none⟩) L:=fun i hi=>by
 have hc:∀ j,j<5->w.cell? ⟨g,0+i*5+j,none⟩=some (frF L (i*5+j)):=fun j E=>by
  rw[yD,h.cell oaa,D _ oaa]
 refine⟨g,0,rfl,?_,?_,?_,?_,?_⟩
 ·have:=hc 0 oaa;rwa [jT L i 0 oaa] at this
 ·have:=hc 1 oaa;rwa [jT L i 1 oaa] at this
 ·have:=hc 2 oaa;rwa [jT L i 2 oaa] at this
 ·have:=hc 3 oaa;rwa [jT L i 3 oaa] at this
 ·have:=hc 4 oaa;rwa [jT L i 4 oaa] at this
def dW(L:List Fr):List Value:=(List.range (L.length*5)).map (frF L)
theorem xZ(L:List Fr):(dW L).length=L.length*5:=by unfold dW;simp
theorem KQ(L:List Fr):∀ v ∈ dW L,v.oneCell' = true:=fun v hv=>by
 unfold dW at hv;obtain⟨m,_,rfl⟩:=List.mem_map.1 hv;exact Kn L m
theorem aS.src{b o:Nat}(h:aS w (some ⟨b,o,none⟩) L):∀ j v,(dW L)[j]?=some v->w.cell? ((⟨b,o,none⟩:Addr).add j)=some v:=fun j v E=>by
 unfold dW at E;rw[List.getElem?_map] at E
 have F:j<L.length*5:=by
  rcases Nat.lt_or_ge j (L.length*5) with h|h
  ·exact h
  ·rw[List.getElem?_eq_none (by simpa using h)] at E;cases E
 rw[List.getElem?_range F] at E;have hv:frF L j=v:=by simpa using E
 rw[Addr.add_lit,<- hv];obtain⟨I,J,e,c0,c1,c2,c3,c4⟩:=h (j / 5) oaa;cases e;have hs:j % 5=0\/j % 5=1\/j % 5=2\/j % 5=3\/j % 5=4:=oaa
 rcases hs with e|e|e|e|e
 ·have D:j=j / 5*5+0:=oaa
  rw[D,jT L (j / 5) 0 oaa,<- D,show o+j=o+j / 5*5 by omega];exact c0
 ·have D:j=j / 5*5+1:=oaa
  rw[D,jT L (j / 5) 1 oaa,<- D,show o+j=o+j / 5*5+1 by omega];exact c1
 ·have D:j=j / 5*5+2:=oaa
  rw[D,jT L (j / 5) 2 oaa,<- D,show o+j=o+j / 5*5+2 by omega];exact c2
 ·have D:j=j / 5*5+3:=oaa
  rw[D,jT L (j / 5) 3 oaa,<- D,show o+j=o+j / 5*5+3 by omega];exact c3
 ·have D:j=j / 5*5+4:=oaa
  rw[D,jT L (j / 5) 4 oaa,<- D,show o+j=o+j / 5*5+4 by omega];exact c4
theorem UX(hg:w.heap[g]?=some (.cells (dW L++(madeCells lG N).toList.drop (dW L).length).toArray 65 (0,0)))(hl:L.length*5<=N):∃ F,w.rowIs g 65 N F/\∀ m,m<L.length*5->F m=frF L m:=by
 have h:=row_of hg
 have hs:(dW L++(madeCells lG N).toList.drop (dW L).length).length=N:=by
  simp[xZ,size_madeCells];omega
 rw[hs] at h;refine⟨_,h,fun m E=>?_⟩;have D:m<(dW L).length:=by rw[xZ];exact E
 have e:(dW L)[m]?=some (frF L m):=by
  unfold dW;rw[List.getElem?_map,List.getElem?_range E];rfl
 rw[List.getD_eq_getElem?_getD,List.getElem?_append_left D,e];rfl
theorem Ko(a:OA)(c:Nat)(L:List Fr)(k:Int)(w:Wd)(O:L.length<=9223372036854775807)(J:aS w a L)(M:dR L k≠0) :
  yO 138 #[.slice a L.length c,.int .i64 k] w fun e w' => e=.returned (.tuple #[.int .i64 0,.int .i64 (dR L k)])/\Below w.heap.size w w' := by
 have D:Hid _:=KF a c L k w O J;have T:decide (dR L k=0)=false:=yH M;clear J;generalize dR L k=E at *;generalize L.length=n at *
 go_enter func138,ntmps138
 go_wp2_with fail
 refine yj D.out ?_;rintro e w1 ⟨rfl,F⟩;have I:Hid (Bl w w1):=F;clear F
 go_wp2_with fail
 exact yz (v:=.tuple #[.int .i64 0,.int .i64 E]) (by simp[results,results138,go_sem]) rfl ⟨rfl,I.out⟩
theorem Kq(a:OA)(c:Nat)(L:List Fr)(k:Int)(w:Wd)(hN:L.length<=8)(hL:aS w a L)(hE:dR L k=0) :
  yO 138 #[.slice a L.length c,.int .i64 k] w fun e w' => e=.returned (.tuple #[.int .i64 (gM L k:Nat),.int .i64 0])/\Below w.heap.size w w' := by
 have d:=KF a c L k w oaa hL;rw[hE] at d;have D:Hid _:=d;have HL:Hid (aS w a L):=hL;have ST:Hid (∀ j,j<L.length->gM (L.take (j+1)) k=gM (L.take j) k+(if (fr L j).p=k/\(fr L j).g=false then 1 else 0)):=fun j hj=>Jy k hj;have EN:Hid (gM (L.take L.length) k=gM L k):=(by rw[List.take_length]:gM (L.take L.length) k=gM L k);have Z:Hid (gM (L.take 0) k=0):=rfl;clear hL hE d;obtain⟨r,hr⟩:∃ r,gM L k=r:=⟨_,rfl⟩;rw[hr] at EN |-;clear hr;obtain⟨n,hn⟩:∃ n,L.length=n:=⟨_,rfl⟩;have HN:Hid (L.length=n):=hn;rw[hn] at hN ST EN D |-;clear hn
 go_enter func138,ntmps138
 go_wp2_with fail
 refine yj D.out ?_;rintro e w1 ⟨rfl,T⟩;have O:Hid (Bl w w1):=T;clear T
 go_wp2_with fail
 go_loopg [7,18] n (fun g s7 s18 wr=>∃ (i q:Nat),i<=n/\n-i<=g/\s18=.int .i64 i/\s7=.int .i64 q/\q<=i/\Hid (Bl w wr)/\Hid (gM (L.take i) k=q))
 case atStart=>exact⟨0,0,oaa,oaa,rfl,rfl,oaa,O,Z⟩
 case round =>
  obtain⟨i,q,hi,hg,rfl,rfl,hq,I,M⟩:=hrel;clear O;by_cases U:i<n
  ·have a6:(i:Int)<(n:Int):=oaa;obtain⟨b,o,ea,c0,c1,c2,c3,c4⟩:=(HL.below I) i (by rw[HN.out];exact U);subst ea;have E:=ST.out i U;rw[M.out] at E;have q0:=yi _ _ c0;have J:Hid (∀ o1,Bl w (wr.alloc o1)):=fun o1=>I.trans ((aB wr o1).mono I.size);generalize fr L i=x at *;obtain⟨xp,xo,xm,xt,xg⟩:=x;dsimp only at c0 c1 c2 c3 c4 E;by_cases hp:xp=k
   ·subst hp;cases xg
    ·have F:Hid (gM (L.take (i+1)) xp=q+1):=(by rw[ye ⟨rfl,rfl⟩] at E;exact E);clear E
     go_wp2_with fail
     go_roundg (n-(i+1))
     case measure=>omega
     case rel=>exact⟨i+1,q+1,oaa,oaa,by go_num,by go_num,oaa,J.out _,F⟩
    ·have F:Hid (gM (L.take (i+1)) xp=q):=(by rw[yd oac] at E;exact E);clear E
     go_wp2_with fail
     go_roundg (n-(i+1))
     case measure=>omega
     case rel=>exact⟨i+1,q,oaa,oaa,by go_num,rfl,oaa,J.out _,F⟩
   ·have F:Hid (gM (L.take (i+1)) k=q):=(by rw[yd (fun hh=>hp hh.1)] at E;exact E);have a7:decide (xp=k)=false:=yH hp;have a8:(xp == k)=false:=(by simp[hp]);clear E
    go_wp2_with fail
    go_roundg (n-(i+1))
    case measure=>omega
    case rel=>exact⟨i+1,q,oaa,oaa,by go_num,rfl,oaa,J.out _,F⟩
  ·have a5:i=n:=oaa;subst a5;have F:Hid (q=r):=M.symm.trans EN;clear M
   go_wp2_with fail
   exact yz (v:=.tuple #[.int .i64 (q:Int),.int .i64 0]) (by simp[results,results138,go_sem]) rfl ⟨by rw[F.out],I.out⟩
def mY(L:List Fr)(ks:List Int):Int:=ks.foldl (fun e k=>if e=0 then bC L k else e) (bS L)
def mI(L:List Fr)(f t x:Int):Bool :=
 if x=1 then decide ((fr L f.toNat).o=(fr L t.toNat).o)
 else if x=2 then true
 else if x=3 then decide (bits .andNot .i64 2 (fr L f.toNat).m=0)
 else (!decide (t=f)) && inF L t f
def bG(L:List Fr)(f t x:Int):Int :=
 if mY L [f,t]≠0 then mY L [f,t] else if ¬ (1<=x/\x<=5) then 3 else if mI L f t x=true then 0 else 7
theorem vG(L:List Fr)(f t:Int):mY L [f,t]=if bS L≠0 then bS L else if bC L f≠0 then bC L f else bC L t:=by
 unfold mY;simp only[List.foldl];by_cases h1:bS L=0
 ·rw[ye h1,yd (yL h1)];by_cases D:bC L f=0
  ·rw[ye D,yd (yL D)]
  ·rw[yd D,ye D]
 ·rw[yd h1,yd h1,ye h1]
theorem UY(h:mY L [f,t]=0):bS L=0/\bC L f=0/\bC L t=0:=by
 rw[vG] at h;by_cases h1:bS L=0
 ·rw[yd (yL h1)] at h;by_cases D:bC L f=0
  ·rw[yd (yL D)] at h;exact⟨h1,D,h⟩
  ·rw[ye D] at h;exact absurd h D
 ·rw[ye h1] at h;exact absurd h h1
theorem UZ(h1:bS L=0)(D:bC L f=0)(E:bC L t=0):mY L [f,t]=0:=by
 rw[vG,yd (yL h1),yd (yL D),E]
def pG(k:Int):Option (Bool × Int × Bool) :=
 if k=1 then some (true,0,false) else if k=2 then some (false,0,false) else if k=3 then some (false,2,false) else if k=4\/k=5 then some (false,0,true) else none
def yP(L:List Fr)(f t:Int)(D:Bool)(nd:Int)(E:Bool):Bool :=
 (!D || decide ((fr L f.toNat).o=(fr L t.toNat).o)) && (decide (bits .andNot .i64 nd (fr L f.toNat).m=0) && (!E ||((!decide (t=f)) && inF L t f)))
theorem KR{a:Int}(h0:0<=a)(D:a<=7):bits .andNot .i64 0 a=0:=UO (P:=fun a=>bits .andNot .i64 0 a=0) (by decide +kernel) h0 D
theorem KT:pG x=none↔¬ (1<=x/\x<=5):=by
 unfold pG;by_cases h1:x=1
 ·rw[ye h1];simp;omega
 ·rw[yd h1];by_cases D:x=2
  ·rw[ye D];simp;omega
  ·rw[yd D];by_cases E:x=3
   ·rw[ye E];simp;omega
   ·rw[yd E];by_cases F:x=4\/x=5
    ·rw[ye F];simp;omega
    ·rw[yd F];simp;omega
theorem Kr(R:gL L){f t:Nat}(O:f<L.length){I J:Bool}{nd:Int}(h:pG x=some (I,nd,J)):yP L f t I nd J=mI L f t x:=by
 have D:=R.may O;unfold pG at h;unfold yP mI;rw[yk];by_cases h1:x=1
 ·rw[ye h1] at h;rw[ye h1];cases h;simp[KR D.1 D.2]
 ·rw[yd h1] at h;rw[yd h1];by_cases E:x=2
  ·rw[ye E] at h;rw[ye E];cases h;simp[KR D.1 D.2]
  ·rw[yd E] at h;rw[yd E];by_cases F:x=3
   ·rw[ye F] at h;rw[ye F];cases h;simp
   ·rw[yd F] at h;rw[yd F];by_cases M:x=4\/x=5
    ·rw[ye M] at h;cases h;simp[KR D.1 D.2]
    ·rw[yd M] at h;cases h
theorem Kt(h:bS L≠0):bG L f t x=bS L:=by
 unfold bG;rw[vG,ye h,ye h]
theorem Ku(h:bS L=0)(D:bC L f≠0):bG L f t x=bC L f:=by
 unfold bG;rw[vG,yd (yL h),ye D,ye D]
theorem Kv(h:bS L=0)(D:bC L f=0)(E:bC L t≠0):bG L f t x=bC L t:=by
 unfold bG;rw[vG,yd (yL h),yd (yL D),ye E]
theorem Kw(h:bS L=0)(D:bC L f=0)(E:bC L t=0):bG L f t x=if ¬ (1<=x/\x<=5) then 3 else if mI L f t x=true then 0 else 7:=by
 unfold bG;rw[UZ h D E,yd oae]
def goE(L:List Fr)(k o:Int):Int:=if dR L k≠0 then dR L k else if ¬ (0<=o/\o<=9) then 2 else if 1000<=(fr L k.toNat).t then 1 else 0
def goX(L:List Fr)(k o:Int)(i:Nat):Fr:=if (i:Int)=k then { fr L i with o:=o,t:=(fr L i).t+1 } else { fr L i with g:=(fr L i).g || inF L i k }
def goF(L:List Fr)(k o:Int):List Fr:=(List.range L.length).map (goX L k o)
theorem nV(L:List Fr)(k o:Int):(goF L k o).length=L.length:=by unfold goF;simp
theorem EA(h:i<L.length):fr (goF L k o) i=goX L k o i:=by
 rw[rZ (by rw[nV];exact h)];unfold goF;simp
theorem VA(h:goE L k o=0):dR L k=0/\(0<=o/\o<=9)/\(fr L k.toNat).t<1000:=by
 unfold goE at h;by_cases h1:dR L k=0
 ·rw[yd (yL h1)] at h;by_cases D:0<=o/\o<=9
  ·rw[yd (yL D)] at h;by_cases E:1000<=(fr L k.toNat).t
   ·rw[ye E] at h;cases h
   ·exact⟨h1,D,oaa⟩
  ·rw[ye D] at h;cases h
 ·rw[ye h1] at h;exact absurd h h1
theorem VB{L:List Fr}(R:gL L){top:Int}:∀ (n:Nat) (k:Int),k<n->inF L k top=true->top<=k
 | 0,k,F,h=>by
  unfold inF at h;rw[vC oaa] at h;cases h
 | n+1,k,F,h=>by
  by_cases D:0<=k/\k<L.length
  ·obtain⟨i,rfl⟩:=Int.eq_ofNat_of_zero_le D.1;by_cases E:(i:Int)=top
   ·omega
   ·rw[DJ R oaa E] at h;have hl:=R.low (i:=i) oaa;have:=VB R n _ oaa h;omega
  ·unfold inF at h;rw[vC D] at h;cases h
theorem Ky(R:gL L){top:Int}(h:inF L k top=true):top<=k:=VB R (k.toNat+1) k oaa h
theorem qL{k:Nat}(h:k<L.length):fr (goF L k o) k={ fr L k with o:=o,t:=(fr L k).t+1 }:=by
 rw[EA h];unfold goX;rw[ye rfl]
theorem nW{k:Nat}(h:i<L.length)(D:i≠k):fr (goF L k o) i={ fr L i with g:=(fr L i).g || inF L i k }:=by
 rw[EA h];unfold goX;rw[yd oaa]
theorem KW(h:i<L.length):(fr (goF L k o) i).p=(fr L i).p:=by
 rw[EA h];unfold goX
 split <;> rfl
theorem EB(h:i<L.length):(fr (goF L k o) i).m=(fr L i).m:=by
 rw[EA h];unfold goX
 split <;> rfl
theorem VC(h:goE L k o=0):gL (goF L k o):=by
 obtain⟨h1,O,T⟩:=VA h;obtain⟨R,q,rfl,U,hg⟩:=xX h1;rw[yk] at T;refine⟨by rw[nV];exact R.few,fun i hi=>?_⟩;rw[nV] at hi;obtain⟨a1,a2,a3⟩:=pF.1 (R.ok i hi);rw[pF];refine⟨?_,?_,fun h0=>?_⟩
 ·unfold jR at a1 |-;rw[KW hi];exact a1
 ·unfold nU at a2 |-;rw[EB hi];by_cases e:i=q
  ·subst e;rw[qL hi];dsimp only;exact⟨O,a2.2.1,oaa⟩
  ·rw[nW hi e];exact a2
 ·obtain⟨p,I,M,D⟩:=R.up hi h0;rw[KW hi,I,yk];unfold kM;rw[EB hi,EB oaa];refine⟨D.1,?_⟩;by_cases e:i=q
  ·subst e;rw[qL hi,nW oaa oaa];dsimp only;right
   have E:(fr L p).g=false:=by
    rcases D.2 with hh|hh
    ·rw[hg] at hh;cases hh
    ·exact hh
   have F:inF L (p:Int) i=false:=by
    cases hc:inF L (p:Int) i with
    | false=>rfl
    | true=>exact absurd (Ky R (k:=(p:Int)) hc) oaa
   rw[E,F];rfl
  ·rw[nW hi e];dsimp only;by_cases J:p=q
   ·subst J;left;rw[DJ R hi oaa,I,UT oaa,Bool.or_true]
   ·rw[nW oaa J,DJ R hi oaa,I];dsimp only;rcases D.2 with hh|hh
    ·left;rw[hh,Bool.true_or]
    ·rw[hh]
     cases inF L (p:Int) q with
     | true=>left;rw[Bool.or_true]
     | false=>right;rfl
theorem EH{w1:Wd}{a:OA}{n c:Nat}{p D:Int}(hb:Below (w.heap.size+1+1+1) (((w.alloc (.cells #[.slice a n c] 43)).alloc (.cells #[.int .i64 p,.int .i64 D] 61)).alloc (.cells #[.slice none 0 0] 43)) w1) :
  w1.cell? ⟨w.heap.size,0,none⟩=some (.slice a n c)/\w1.cell? ⟨w.heap.size+1,0,none⟩=some (.int .i64 p)/\w1.cell? ⟨w.heap.size+1,1,none⟩=some (.int .i64 D)/\w1.cell? ⟨w.heap.size+1+1,0,none⟩=some (.slice none 0 0)/\(∀ o,w1.frozen? ⟨w.heap.size+1+1,o,none⟩=false):=by
 refine⟨?_,?_,?_,?_,fun o=>?_⟩
 all_goals first|exact(hb.cell oag).trans oaf|exact(hb.frozen oag).trans oaf
theorem Lc(a:OA)(c:Nat)(S:List Nd)(p u E:Int)(w:Wd)(hN:S.length<=9223372036854775807)(I:Big S)(M:aD w a S)(J:dH S [(p,u)]=E)(F:E≠0) :
  yO 168 #[.agg #[.slice a S.length c],.agg #[.int .i64 p,.int .i64 u]] w fun e w' => e=.returned (.tuple #[.agg #[.slice none 0 0],.int .i64 E])/\Below w.heap.size w w' := by
 have d1:=fun(W:Wd) (ha:OA) (hW:aD W a S) (Z:aZ W ha [(p,u)])=>tX a c S ha 1 [(p,u)] W hN I hW oac Z;rw[J] at d1;have O:Hid _:=d1;have U:Hid (aD w a S):=M;clear M d1 J I;have hz:(E == 0)=false:=by simp[F]
 generalize S.length=n at *
 go_enter func168,ntmps168
 go_wp2_with (go_at_call 185;refine(O _ _ (U.below (fB _ _ _ _ _)) (wX _ _ _ _ oaf oaf)).mono ?_;rintro e w1 ⟨rfl,D⟩;simp only[yw] at D;obtain⟨l0,l1,l2,l3,l4⟩:=EH (((yv _ _).alloc oac _).trans (D.mono oaa));have T:Hid _:=D;clear D)
 refine yz (v:=.tuple #[.agg #[.slice none 0 0],.int .i64 E]) (by simp[results,results168,go_sem,l3]) rfl ⟨rfl,?_⟩;exact((fB _ _ _ _ _).trans (T.mono oaa)).setCell oab _
theorem Ld(a:OA)(c:Nat)(S:List Nd)(D:Nat)(u:Int)(w:Wd)(hN:S.length<=9223372036854775807)(M:Big S)(T:aD w a S)(O:dH S [((D:Int),u)]=0)(hch:D<S.length)(Z:(nd S D).p = -1) :
  yO 168 #[.agg #[.slice a S.length c],.agg #[.int .i64 D,.int .i64 u]] w fun e w' => e=.returned (.tuple #[.agg #[.slice none 0 0],.int .i64 6])/\Below w.heap.size w w' := by
 have d1:=fun(W:Wd) (ha:OA) (I:aD W a S) (hH:aZ W ha [((D:Int),u)])=>tX a c S ha 1 [((D:Int),u)] W hN M I oac hH;rw[O] at d1;have D1:Hid _:=d1;have J:Hid (aD w a S):=T;have U:(D:Int)<(S.length:Int):=oaa
 have QP:Hid (∀ W,aD W a S->∃ b o,a=some ⟨b,o,none⟩/\W.cell? ⟨b,o+D*8+4,none⟩=some (.int .i64 (-1))):=fun W I=>by
  obtain⟨b,o,e,_,_,_,_,c4,_⟩:=I D hch;exact⟨b,o,e,by rw[c4,Z]⟩
 clear T d1 O M Z;generalize S.length=n at *
 go_enter func168,ntmps168
 go_wp2_with (go_at_call 185;refine(D1 _ _ (J.below (fB _ _ _ _ _)) (wX _ _ _ _ oaf oaf)).mono ?_;rintro e w1 ⟨rfl,E⟩;simp only[yw] at E;obtain⟨l0,l1,l2,l3,l4⟩:=EH (((yv _ _).alloc oac _).trans (E.mono oaa));have F:=(fB _ _ _ _ _).trans (E.mono oaa);obtain⟨b,o,rfl,qp⟩:=QP.out _ (J.below F);have HB:Hid _:=F;have hq:=yi _ _ qp;clear E F)
 refine yz (v:=.tuple #[.agg #[.slice none 0 0],.int .i64 6]) (by simp[results,results168,go_sem,l3]) rfl ⟨rfl,?_⟩;exact HB.setCell oab _
theorem Le(a:OA)(c:Nat)(S:List Nd)(E pa:Nat)(u:Int)(w:Wd)(hN:S.length<=24)(hB:Big S)(hS:aD w a S)(hE:dH S [((E:Int),u)]=0)(hch:E<S.length)(hpa:pa<S.length)(b1:pa≠E)(hp:(nd S E).p=pa)(hK:∀ i,i<S.length->(nd S i).ks.length<=1000) :
  yO 168 #[.agg #[.slice a S.length c],.agg #[.int .i64 E,.int .i64 u]] w fun e w' => ∃ g,e=.returned (.tuple #[.agg #[.slice (some ⟨g,0,none⟩) S.length S.length],.int .i64 0])/\Below w.heap.size w w' /\ w.heap.size<=g/\∀ w3:World,(∀ b,g<=b->w3.heap[b]?=w'.heap[b]?)->aD w3 (some ⟨g,0,none⟩) (eD S pa E):=by
 have d1:=fun(W:Wd) (ha:OA) (hW:aD W a S) (hH:aZ W ha [((E:Int),u)])=>tX a c S ha 1 [((E:Int),u)] W oaa hB hW oac hH;rw[hE] at d1;have D1:Hid _:=d1;have HS:Hid (aD w a S):=hS;have b3:(E:Int)<(S.length:Int):=oaa
 have QP:Hid (∀ W,aD W a S->∃ b o,a=some ⟨b,o,none⟩/\W.cell? ⟨b,o+E*8+4,none⟩=some (.int .i64 (pa:Int))):=fun W hW=>by
  obtain⟨b,o,e,_,_,_,_,c4,_⟩:=hW E hch;exact⟨b,o,e,by rw[c4,hp]⟩
 have dc:=fun(W:Wd) (hW:aD W a S)=>copy_any a c S W hN hK hW;have DC:Hid _:=dc;have dl:=fun(B g c:Nat) (kb kc:Nat->Nat) (W:Wd) (hO:Own W B g S kb kc S.length)=>QM B g c S kb kc pa E W hO hpa hch b1 hp;have DL:Hid _:=dl
 have OC:Hid (∀ (wr:Wd) (B g:Nat) (kb kc:Nat->Nat),Own wr B g S kb kc S.length->B<=g/\g<wr.heap.size/\g<kb pa/\kb pa<wr.heap.size):=fun wr B g kb kc h=>by
  obtain⟨hB,F,hF,a9,hg,_⟩:=h;exact⟨hB,hF.lt,hg pa hpa,(a9 pa hpa).row⟩
 clear hS d1 hE hB hp dc dl hK;generalize hn:S.length=n at *;have HN:Hid _:=hn;clear hn
 go_enter func168,ntmps168
 go_wp2_with (go_at_call 185;refine(D1 _ _ (HS.below (fB _ _ _ _ _)) (wX _ _ _ _ oaf oaf)).mono ?_;rintro e w1 ⟨rfl,I⟩;simp only[yw] at I;have M:Hid (Below (w.heap.size+1+1+1) (((w.alloc (.cells #[.slice a n c] 43)).alloc (.cells #[.int .i64 (E:Int),.int .i64 u] 61)).alloc (.cells #[.slice none 0 0] 43)) w1):=((yv _ _).alloc oac _).trans (I.mono oaa);obtain⟨l0,l1,l2,U,l4⟩:=EH M.out;have T:=(fB _ _ _ _ _).trans (I.mono oaa);obtain⟨b,o,ea,qp⟩:=QP.out _ (HS.below T);have HB:Hid _:=T;have hq:=yi _ _ qp;have b8:=yi _ _ l0;have c6:=yi _ _ l1;have c7:=yi _ _ U;subst ea;clear I T)
 refine(DC _ (HS.below HB)).mono ?_;rintro e Z ⟨g,kb,kc,rfl,J,O⟩;obtain⟨b4,b6,b5,b7⟩:=OC.out _ _ _ _ _ O;have c9:=J.size;have H7:Hid _:=M.trans (J.mono (by have:=M.size;simp at this;omega));have a8:Hid (Own Z w1.heap.size g S kb kc n):=O;have a5:Hid (Bl w Z):=HB.trans (J.mono HB.size);clear l0 l1 l2 U l4 J O;obtain⟨l0,l1,l2,U,l4⟩:=EH H7.out;have L1:=nO l1;have L3:=nO U;have c8:=yi _ _ l0;have b0:=yi _ _ U
 go_wp2_with fail
 refine(DL _ g n kb kc _ (Own.below a8 ((yv _ _).alloc (yr _) _))).mono ?_;rintro e w9 ⟨rfl,D,a6⟩;have b9:=(D.cell (p:=⟨Z.heap.size,0,none⟩) oac (by show ¬ (Z.heap.size=g\/Z.heap.size=kb pa);omega)).trans (show _=some (Value.slice (some ⟨g,0,none⟩) n n) by go_simp);have r9:=(D.cell (p:=⟨w.heap.size+1+1,0,none⟩) oab (by show ¬ (w.heap.size+1+1=g\/w.heap.size+1+1=kb pa);omega)).trans (L3 _);have f9:=fun o=>(D.frozen (p:=⟨w.heap.size+1+1,o,none⟩) oab (by show ¬ (w.heap.size+1+1=g\/w.heap.size+1+1=kb pa);omega)).trans ((((yv _ Z).alloc (yr _) (.cells #[.slice (some ⟨g,0,none⟩) n n] 43)).frozen (by exact b0)).trans (l4 o));have a7:Hid (Bl w w9):=(a5.alloc a5.size _).trans (D.below oab (fun k hk=>by rcases hk with hk|hk <;> omega));have NS:Hid (∀ v (w3:Wd),(∀ b,g<=b->w3.heap[b]?=(w9.setCell ⟨w.heap.size+1+1,0,none⟩ v).heap[b]?)->aD w3 (some ⟨g,0,none⟩) (eD S pa E)):=fun v w3 b2=>Own.up a6 _ (fun b hb=>(b2 b hb).trans (yx _ _ _ _ (by show b≠w.heap.size+1+1;omega)));clear a6 D l0 l1 l2 U l4 L1 L3
 go_wp2
 refine yz (v:=.tuple #[.agg #[.slice (some ⟨g,0,none⟩) n n],.int .i64 0]) (by simp[results,results168,go_sem,r9]) rfl ⟨g,rfl,a7.setCell oab _,oaa,NS.out _⟩
theorem Lh(a:OA)(c:Nat)(S:List Nd)(k:Nat)(u:Int)(w:Wd)(hN:S.length<=24)(hB:∀ i,i<S.length->(nd S i).ks.length<=1000)(hS:aD w a S)(hk:k<S.length)(I:aP S k u=0)(hT:nP S k) :
  yO 167 #[.agg #[.slice a S.length c],.agg #[.int .i64 k,.int .i64 u]] w fun e w' => ∃ g,e=.returned (.tuple #[.agg #[.slice (some ⟨g,0,none⟩) S.length S.length],.int .i64 0])/\Below w.heap.size w w' /\ w.heap.size<=g/\∀ w3:World,(∀ b,g<=b->w3.heap[b]?=w'.heap[b]?)->aD w3 (some ⟨g,0,none⟩) (S.set k (lY (nd S k))):=by
 have hK:=yJ (hB k hk) (show 1000<=1000000 by omega);have dc:=fun(W:Wd) (hW:aD W a S)=>copy_any a c S W hN hB hW;have DC:Hid _:=dc;replace hB:Big S:=fun i hi=>yJ (hB i hi) oaa;have D1:Hid (∀ W,aD W a S->Calls _ _ _ _ _):=fun W hW=>find_ok a c S k u W oaa hB hW hk I hK;obtain⟨r,hr⟩:∃ r,bA (nd S k)=r:=⟨_,rfl⟩;obtain⟨h2,b9⟩:∃ b,iD S k=b:=⟨_,rfl⟩;have d2:=fun(v:Value) W=>IA (nd S k) v W;rw[show (if (nd S k).h = -1 then (nd S k).p else (nd S k).h)=r from hr] at d2;have D2:Hid _:=d2;have d3:=fun W hW=>xD a c S (k:Int) W oaa hW oaa;rw[b9] at d3;have D3:Hid _:=d3;have HS:Hid (aD w a S):=hS;have N8:Hid (∀ (w w3:Wd) (B g:Nat) (kb kc:Nat->Nat),Own w B g S kb kc S.length->_->aD w3 (some ⟨g,0,none⟩) (S.set k (lY (nd S k)))):=fun w w3 B g kb kc h c6=>Own.nil8 h hk (lY (nd S k)) rfl w3 c6
 have OC:Hid (∀ (wr:Wd) (B g:Nat) (kb kc:Nat->Nat),Own wr B g S kb kc S.length->(g<wr.heap.size/\(∀ o,wr.frozen? ⟨g,o,none⟩=false)/\(∃ v0 v1 v2 v3 v4 v5 v6 v7,wr.cell? ⟨g,k*8,none⟩=some v0/\wr.cell? ⟨g,k*8+1,none⟩=some v1/\wr.cell? ⟨g,k*8+2,none⟩=some v2/\wr.cell? ⟨g,k*8+3,none⟩=some v3/\wr.cell? ⟨g,k*8+4,none⟩=some v4/\wr.cell? ⟨g,k*8+5,none⟩=some v5/\wr.cell? ⟨g,k*8+6,none⟩=some v6/\wr.cell? ⟨g,k*8+7,none⟩=some v7))):=fun wr B g kb kc h=>by
  obtain⟨_,F,I,g9,_⟩:=h;exact⟨I.lt,I.frozen,_,_,_,_,_,_,_,_,I.cell oaa,I.cell oaa,I.cell oaa,I.cell oaa,I.cell oaa,I.cell oaa,I.cell oaa,I.cell oaa⟩
 obtain⟨t1,t2,t3⟩:=hT;rw[hr] at t1;rw[b9] at t3;subst t1 t3;have t4:(nd S k).ks.length=0:=by rw[t2];rfl
 have h3:(k:Int)<(S.length:Int):=oaa
 have h4:decide ((k:Int)<0)=false:=yH oaa;unfold lY at N8 |-;clear hS d2 d3 dc I hB hr b9 t2 hK;generalize hx:nd S k=x at *;clear hx;obtain⟨xu,xn,xt,xm,xp,g5,xh,xc⟩:=x;dsimp only at *;generalize g5.length=L at *;subst t4;generalize hn:S.length=n at *;clear hn
 go_enter func167,ntmps167
 go_wp2_with (go_at_call 14;refine(D1 _ (HS.below (dC _ _ _ _))).mono ?_;rintro e w1 ⟨kg,rfl,M,g4⟩;clear g4;simp only[yw] at M;obtain⟨l0,l1,l2,l3,z3⟩:=lL M;have b3:=M.size;simp only[yw] at b3;have q0:w.heap.size<w1.heap.size:=oaa;have q1:w.heap.size+1<w1.heap.size:=oaa;have q2:w.heap.size+1+1<w1.heap.size:=oaa)
 refine(D2 _ _).mono ?_;rintro e w2 ⟨rfl,a6⟩;simp only[yw] at a6;obtain⟨Z,n0,n1,n2,n3,n4,n5,n6,n7⟩:=sJ M b3 a6;have e8:=a6.size;simp only[yw] at e8;clear l0 l1 l2 l3 z3;obtain⟨l0,l1,l2,l3,z3⟩:=lL Z;have a8:Hid (Bl w w2):=(dC _ _ _ _).trans (Z.mono oaa);have b8:Hid _:=M;have c8:Hid _:=a6;have q3:w1.heap.size<w2.heap.size:=oaa
 clear M a6 Z
 go_wp2_with fail
 refine(D3 _ (HS.below a8)).mono ?_;rintro e w3 ⟨rfl,b0⟩;have h6:=b0.size;have E:Hid (Bl w w3):=a8.trans (b0.mono (by have:=a8.size;omega));have a7:=c8.trans (b0.mono e8);clear l0 l1 l2 l3 z3 n0 n1 n2 n3 n4 n5 n6 n7 b0 c8;obtain⟨b6,n0,n1,n2,n3,n4,n5,n6,n7⟩:=sJ b8.out b3 a7;obtain⟨l0,l1,l2,l3,z3⟩:=lL b6;have r1:w1.heap.size<w3.heap.size:=oaa
 have r2:w.heap.size<w3.heap.size:=oaa
 have r3:w.heap.size+1<w3.heap.size:=oaa
 have r4:w.heap.size+1+1<w3.heap.size:=oaa
 have b4:Hid _:=a7;clear b6 a7
 go_wp2_with fail
 refine(DC _ (HS.below E)).mono ?_;rintro e O ⟨g,kb,kc,rfl,b1,a9⟩;have hg:w3.heap.size<=g:=a9.1;have e9:w1.heap.size+1<=w3.heap.size:=oaa
 have b7:=b4.trans (b1.mono e9);have h7:=b1.size;have U:Hid (Bl w O):=E.trans (b1.mono (by have:=E.size;omega));clear l0 l1 l2 l3 z3 n0 n1 n2 n3 n4 n5 n6 n7 b4;obtain⟨a5,n0,n1,n2,n3,n4,n5,n6,n7⟩:=sJ b8.out b3 b7;obtain⟨l0,l1,l2,l3,z3⟩:=lL a5;obtain⟨g7,e0,v0,v1,v2,v3,v4,v5,v6,v7,d0,d1,d2,d3,d4,d5,d6,d7⟩:=OC.out _ _ _ _ _ a9;have g6:w1.heap.size<g:=oaa
 have c9:Hid (Own O w3.heap.size g S kb kc n):=a9;have T:Hid _:=a5;clear a5 b7 a9 b1 hg
 go_wp2_with fail
 have t1:w1.heap.size<O.heap.size:=oaa
 obtain⟨D,J⟩:∃ D,D=O.alloc (Obj.cells #[Value.slice (some ⟨g,0,none⟩) n n] 43):=⟨_,rfl⟩;rw[<- J];have k8:D.cell? ⟨O.heap.size,0,none⟩=some (.slice (some ⟨g,0,none⟩) n n):=by rw[J];go_simp
 have k9:D.cell? ⟨w1.heap.size,1,none⟩=some (.int .i64 xn):=by rw[J];go_simp
 have g0:D.heap.size=O.heap.size+1:=by rw[J];simp
 have b2:Bl O D:=by rw[J];exact(yv _ _).alloc (yr _) _
 have d9:=T.trans (b2.mono (by have:=T.size;simp at this;omega));have b5:Hid (Bl w D):=U.trans (b2.mono U.size);have d8:Hid (Own D w3.heap.size g S kb kc n):=Own.below c9 b2;clear l0 l1 l2 l3 z3 n0 n1 n2 n3 n4 n5 n6 n7 d0 d1 d2 d3 d4 d5 d6 d7 e0 c9 T J b2;obtain⟨l0,l1,l2,l3,z3⟩:=lL d9;obtain⟨_,e0,i1,i2,i3,i4,i5,i6,i7,i8,d0,d1,d2,d3,d4,d5,d6,d7⟩:=OC.out _ _ _ _ _ d8.out;have u1:O.heap.size<D.heap.size:=oaa
 have u2:w1.heap.size<D.heap.size:=oaa
 have u3:w.heap.size+1<D.heap.size:=oaa
 have u4:w.heap.size+1+1<D.heap.size:=oaa
 have u5:g<D.heap.size:=oaa
 have u6:w.heap.size+1+1<g:=oaa
 have g8:Hid (D.heap.size=O.heap.size+1):=g0;clear d9 g0;have h8:=World.new_ne D _ k8;have h9:=World.new_ne D _ k9;have i0:=World.new_ne D _ l1;have e1:¬ g=O.heap.size:=oaa
 have e2:¬ O.heap.size=g:=oaa
 have e3:¬ g=w.heap.size+1:=oaa
 have e4:¬ w.heap.size+1=g:=oaa
 have e5:¬ g=w1.heap.size:=oaa
 have e6:¬ w1.heap.size=g:=oaa
 clear U E a8 b8 HS D1 D2 D3 DC OC
 go_region_held3 (fun c7=>c7.cell? ⟨O.heap.size,0,none⟩=some (.slice (some ⟨g,0,none⟩) n n)/\c7.cell? ⟨w.heap.size+1,0,none⟩=some (.int .i64 k)/\c7.cell? ⟨w1.heap.size,1,none⟩=some (.int .i64 xn)) (go_keep) (first|(go_at_call 93;refine(GZ _ _).mono ?_;rintro e w' ⟨rfl,rfl⟩))
 all_goals (try go_wp2)
 all_goals
  refine yz (v:=.tuple #[.agg #[.slice (some ⟨g,0,none⟩) n n],.int .i64 0]) (by simp only[results,results167];go_simp) rfl ⟨g,rfl,?_,oaa,fun w3 c6=>?_⟩
  ·first
    | exact((((((((((b5.setCell oab _).setCell oab _).setCell oab _).setCell oab _).setCell oab _).setCell oab _).setCell oab _).setCell oab _).setCell oab _).alloc oab _).drew
    | exact((((((((((b5.setCell oab _).setCell oab _).setCell oab _).setCell oab _).setCell oab _).setCell oab _).setCell oab _).setCell oab _).alloc oab _).setCell oab _).drew
  ·refine N8.out D w3 _ g kb kc d8.out (fun b hb e7=>(c6 b hb).trans ?_)
   first
    |(rw[heap_drew,((yv _ _).alloc (yr _) _).block b (by simpa using e7),yx _ _ _ _ (by show b≠w.heap.size+1+1;omega)])
    |(rw[heap_drew,yx _ _ _ _ (by show b≠w.heap.size+1+1;omega),((yv _ _).alloc (yr _) _).block b (by simpa using e7)])
