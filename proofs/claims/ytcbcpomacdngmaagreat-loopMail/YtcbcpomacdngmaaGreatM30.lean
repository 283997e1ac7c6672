/-
  x
-/
import Derived.Test.YtcbcpomacdngmaaGreatM29
namespace Go.Proofs.YtcbcpomacdngmaaGreat
set_option maxRecDepth 100000
set_option maxHeartbeats 4000000
set_option linter.unusedVariables false
open Go.RowKit Go.ChangeShapes Go.WideShapes
theorem zwB{W:Wl}{k:Nat}{x:Ac}(H:zan W)(D:k<W.fs.length)(h:zbK (setP W k [x]) k true=0):zaX (setP W k [x]) k true=doW k (zbb (setP W k [x]) k true) x:=by
 unfold zaX;rw[yb h,yi]
 have:prg (setP W k [x]) k=[x]:=by
  show (W.ps.set k [x]).getD k []=_;rw[zae _ _ (by rw[List.length_set,H.lp];exact D),List.getElem_set_self]
 rw[this];rfl
theorem zwZ{W:Wl}{k:Nat}{x:Ac}(H:zan W)(D:k<W.fs.length)(h:zbK (setP W k [x]) k true=0):(rlm (zaX (setP W k [x]) k true) k).t=(rlm W k).t++[toldOf (zdh (zbb (setP W k [x]) k true) k x)]:=by
 have H2:=H.setP (k:=k) (p:=[x]) (by simp) D;have E:zan (zbb (setP W k [x]) k true):=zex H2 D true (fun h=>by cases h);rw[zwB H D h];unfold doW
 have F:k<(zdh (zbb (setP W k [x]) k true) k x).w.rs.length:=by
  rw[(zmn E D x).lr,zrX];exact D
 rw[zjM F];show (rlm (zdh (zbb (setP W k [x]) k true) k x).w k).t ++ _=_;rw[zle E D x,zdi (by rw[H2.lr];exact D)];rfl
theorem zkR{W:Wl}{k:Nat}{s:Bool}{x:Ac}(h:zbK W k s=0)(D:prg W k=[x]):zaX W k s=doW k (zbb W k s) x:=by
 unfold zaX;rw[yb h,yi,D];rfl
theorem ztY{W:Wl}{k:Nat}{s:Bool}(h:zbK W k s=0)(D:prg W k=[]):zaX W k s=zbb W k s:=by
 unfold zaX;rw[yb h,yi,D];rfl
theorem zuH{W:Wl}{k:Nat}{a n:Int}(h:toldOf (zma W k a n)=0):zao [zdF W.fs k a 3,zbk (rlm W k) n,if (que W a.toNat).length=16 then 1 else 0]=0/\(zma W k a n).w={ W with qs:=W.qs.set a.toNat (que W a.toNat++[⟨k,zaW (rlm W k) n.toNat⟩]) }:=by
 unfold toldOf zma zeN at h;by_cases h0:zao [zdF W.fs k a 3,zbk (rlm W k) n,if (que W a.toNat).length=16 then 1 else 0]=0
 ·refine⟨h0,?_⟩;unfold zma zeN;rw[yb h0]
 ·rw[ya h0] at h;dsimp only at h;rw[ya h0] at h;omega
theorem ztr{W:Wl}{k a n:Nat}(h:zbK W k true=0)(T:prg W k=[⟨10,a,0,0,n⟩])(ha:a<W.fs.length)(U:toldOf (zdh (zbb W k true) k ⟨10,a,0,0,n⟩)=0) :
  que (zaX W k true) a=que W a++[⟨k,zaW (rlm W k) n⟩]/\(∀ i:Nat,i<n->zaC (rlm W k).s (hd (rlm W k) i).1 (hd (rlm W k) i).2=0)/\n<=8/\zax W.fs a=0/\(zaX W k true).fs=W.fs:=by
 obtain⟨H,D,e,I,_⟩:=zdn h;have:D=k:=by omega
 subst this;have hr:D<W.rs.length:=by rw[H.lr];exact I
 have J:D<W.qs.length:=by rw[H.lq];exact I
 have E:zdh (zbb W D true) D ⟨10,a,0,0,n⟩=zma (zbb W D true) D a n:=by
  unfold zdh;rw[ya (show ¬ (10:Int)=9 by decide),ya (show ¬ (10:Int)=13 by decide),ya (show ¬ (10:Int)=12 by decide),yb rfl]
 rw[E] at U;obtain⟨h1,O⟩:=zuH U
 have M:zbk (rlm (zbb W D true) D) n=zbk (rlm W D) n/\zaW (rlm (zbb W D true) D) n=zaW (rlm W D) n:=by
  rw[zdi hr];constructor
  ·have key:∀ m,zcq { rlm W D with i:=if true=true then [] else ((que W D).getD 0 ⟨0,[]⟩).g } m=zcq (rlm W D) m:=fun m=>by
    induction m with
    | zero=>rfl
    | succ m ih=>unfold zcq;rw[ih];rfl
   unfold zbk;rw[key]
  ·rfl
 obtain⟨g1,g2⟩:=zat h1;obtain⟨g3,_⟩:=zat g2;rw[zdt] at g1;rw[M.1] at g3;obtain⟨_,_,Z,_⟩:=zbR g1;obtain⟨m,em,hm,F⟩:=zeG g3;have:m=n:=by omega
 subst this;refine⟨?_,F,hm,Z,?_⟩
 ·rw[zkR h T];show (doW D (zbb W D true) _).qs.getD a []=_;unfold doW zjK;rw[E];show ((zma (zbb W D true) D a m).w).qs.getD a []=_;rw[O];show ((zbb W D true).qs.set (a:Int).toNat _).getD a []=_;rw[yi,zba _ _ _ _ _ (by rw[(zex H I true (fun e=>by cases e)).lq,zdt];exact ha),yb rfl,zmo J,ya (by simp),yi,M.2]
 ·rw[zkR h T];unfold doW zjK;rw[E];show ((zma (zbb W D true) D a m).w).fs=_;rw[O];exact zdt W D true
theorem ztH{W:Wl}{k:Nat}(F:prg W k=[])(h:zbK W k false=0):zaX W k false=zbb W k false/\que (zaX W k false) k=(que W k).drop 1/\(rlm (zaX W k false) k).i=((que W k).getD 0 ⟨0,[]⟩).g/\prg (zaX W k false) k=[]/\(zaX W k false).fs=W.fs/\zan (zaX W k false):=by
 obtain⟨H,D,e,I,_⟩:=zdn h;have:D=k:=by omega
 subst this;have M:D<W.rs.length:=by rw[H.lr];exact I
 have E:D<W.qs.length:=by rw[H.lq];exact I
 have J:=(zlN h).1;rw[ztY h F] at J |-;refine⟨rfl,by rw[zmo E,yb ⟨rfl,rfl⟩],by rw[zdi M];rfl,?_,zdt W D false,J⟩;show (zbb W D false).ps.getD D []=[];rw[ziM];exact F
theorem zwC{W:Wl}(H:zan W){k:Nat}(E:zax W.fs k=0)(F:(que W k).length≠0):zbK W k false=0\/zbK W k false=7\/zbK W k false=1:=by
 unfold zbK;rw[zcM.2 H,E,yi,ya (show ¬ (false=false/\(que W k).length=0) from fun h=>F h.2)];by_cases h1:bits .and .i64 (ziu W k) 1=0
 ·rw[yb h1]
  right;left
  simp[zao]
 ·rw[ya h1];by_cases D:4760<(rlm W k).t.length
  ·rw[yb D]
   right;right
   simp[zao]
  ·rw[ya D];left;simp[zao]
theorem znM{W:World}{b t:Nat}{D v1 v2 E F I J M:Value}(h:W.heap[b]?=some (.cells #[D,v1,v2,E,F,I,J,M] t (0,0))):W.cell? ⟨b,0,none⟩=some D/\W.cell? ⟨b,1,none⟩=some v1/\W.cell? ⟨b,2,none⟩=some v2/\W.cell? ⟨b,3,none⟩=some E/\W.cell? ⟨b,4,none⟩=some F/\W.cell? ⟨b,5,none⟩=some I/\W.cell? ⟨b,6,none⟩=some J/\W.cell? ⟨b,7,none⟩=some M/\(∀ o,W.frozen? ⟨b,o,none⟩=false)/\b<W.heap.size :=
 ⟨by simp[World.cell?,h],by simp[World.cell?,h],by simp[World.cell?,h],by simp[World.cell?,h],by simp[World.cell?,h],by simp[World.cell?,h],by simp[World.cell?,h],by simp[World.cell?,h],fun o=>by simp[World.frozen?,h],zau h⟩
theorem zsu{w V:World}{a:Option Addr}{n c:Nat}{K:Nat->Value}(a5:0<n)(hn:n<=8)(hs:SlA a n c)(h:∀ j u,((List.range n).map K)[j]?=some u->∃ b o,a=some ⟨b,o,none⟩/\w.cell? ⟨b,o+j,none⟩=some u)(h1:∀ i,i<n->∃ pa pl pc,K i=.slice pa pl pc)(Z:Below w.heap.size w V) :
  yL 12 #[.slice a n c] V fun e w' => ∃ I D,e=.returned (.slice (some ⟨I,0,none⟩) n D)/\n<=D/\D<=9223372036854775807/\Below V.heap.size V w' /\ V.heap.size<=I/\w'.ownsRow V.heap.size 34 1 (.slice (some ⟨I,0,none⟩) n D) n ((List.range n).map K):=by
 have ha:a≠none:=fun e=>by
  have:=hs.1 e;have:=hs.2.1;omega
 refine(zqi a n c ((List.range n).map K) V (by omega) (by simp) (fun e=>absurd e ha) (fun j u hj=>?_) (fun u hu=>?_)).mono ?_
 ·obtain⟨b,o,e,hc⟩:=h j u hj;exact⟨b,o,e,zab hc Z⟩
 ·obtain⟨i,hi,rfl⟩:=List.mem_map.1 hu;obtain⟨pa,pl,pc,e⟩:=h1 i (List.mem_range.1 hi);rw[e];rfl
 ·rintro e w' ⟨v2,rfl,J,E⟩;rcases E.2 with ⟨_,h0⟩ |⟨U,F,T,e,hg,_,M,O,_⟩
  ·omega
  ·subst e;exact⟨U,F,rfl,M,by unfold maxLen at O;omega,J,hg,E⟩
theorem zea{f:Nat->Int}{n:Nat}(h:∀ i,i<n->f i=0):zao ((List.range n).map f)=0:=zeb.2 (fun e D=>by
 obtain⟨i,hi,rfl⟩:=List.mem_map.1 D;exact h i (List.mem_range.1 hi))
theorem zmE:∀ {l m:List Int},zao l=0->zao (l++m)=zao m
 | [],_,_=>rfl
 | e :: l,m,h=>by
  have:=zat h;show (if e=0 then zao (l++m) else e)=_;rw[yb this.1];exact zmE this.2
theorem ziC{f:Nat->Int}{n k:Nat}(h:∀ i,i<k->f i=0)(E:k<n)(D:f k≠0):zao ((List.range n).map f)=f k:=by
 have e:List.range n=List.range k++(k ::(List.range (n-k-1)).map (k+1 + ·)):=by
  have:=List.range_add (n:=k) (m:=n-k);rw[show k+(n-k)=n by omega] at this;rw[this,show n-k=(n-k-1)+1 by omega,List.range_succ_eq_map];simp[Nat.add_comm]
  intros
  omega
 rw[e,List.map_append,zmE (zea h),List.map_cons];show (if f k=0 then _ else f k)=f k;rw[ya D]
theorem zgZ{α:Type}(l:List α)(d:α)(g:α->Int):(List.range l.length).map (fun i=>g (l.getD i d))=l.map g:=by
 refine List.ext_getElem (by simp) (fun i h1 D=>?_);have hi:i<l.length:=by simpa using h1
 rw[List.getElem_map,List.getElem_map,List.getElem_range,zae l d hi]
theorem zij:∀ l:List Rl,zcJ l=zao (l.map zaE)
 | []=>rfl
 | r :: l=>by
  show (if zaE r=0 then zcJ l else zaE r)=(if zaE r=0 then zao (l.map zaE) else zaE r);rw[zij l]
def zoI(p:List Ac):Int:=if 40<p.length then 1 else 0
theorem zjq:∀ l:List (List Ac),zel l=zao (l.map zoI)
 | []=>rfl
 | p :: l=>by
  show (if 40<p.length then 1 else zel l)=(if zoI p=0 then zao (l.map zoI) else zoI p);unfold zoI;by_cases h:40<p.length
  ·rw[yb h,yb h,ya (by decide)]
  ·rw[ya h,ya h,yb rfl];exact zjq l
theorem zih(n:Nat):∀ l:List (List Ml),zcI n l=zao (l.map (zbW n))
 | []=>rfl
 | q :: l=>by
  show (if zbW n q=0 then zcI n l else zbW n q)=(if zbW n q=0 then zao (l.map (zbW n)) else zbW n q);rw[zih n l]
def zjc(n:Nat)(m:Ml):Int:=if 0<=m.f/\m.f<=(n:Int)-1 then zaz m.g else 4
theorem zje(n:Nat):∀ l:List Ml,zjd n l=zao (l.map (zjc n))
 | []=>rfl
 | m :: l=>by
  show (if 0<=m.f/\m.f<=(n:Int)-1 then (if zaz m.g=0 then zjd n l else zaz m.g) else 4)=(if zjc n m=0 then zao (l.map (zjc n)) else zjc n m);by_cases h:0<=m.f/\m.f<=(n:Int)-1
  ·have e:zjc n m=zaz m.g:=yb h;rw[yb h,e,zje n l]
  ·have e:zjc n m=4:=ya h;rw[ya h,e,ya (by decide)]
structure ERl where
 sa:Option Addr
 sl:Nat
 sc:Nat
 ha:Option Addr
 hl:Nat
 hc:Nat
 ia:Option Addr
 il:Nat
 ic:Nat
 ta:Option Addr
 tl:Nat
 tc:Nat
structure EPg where
 pa:Option Addr
 pl:Nat
 pc:Nat
structure EQu where
 qa:Option Addr
 ql:Nat
 qc:Nat
structure EMl where
 f:Int
 ga:Option Addr
 gl:Nat
 gc:Nat
theorem zsp(K:Nat)(J:Array Value)(eg:∀ args w,(callFunc K args).run Tryz.prog w=.ok (.enter K args) w)(a:Option Addr)(c n:Nat)(S:Nat->ERl)(f:Nat->Int)(w:World)(hn:n<=9223372036854775807)
  (hs:∀ i,i<n->∃ b o,a=some ⟨b,o,none⟩/\w.cell? ⟨b,o+i*4,none⟩=some (.slice (S i).sa (S i).sl (S i).sc)/\w.cell? ⟨b,o+i*4+1,none⟩=some (.slice (S i).ha (S i).hl (S i).hc)/\w.cell? ⟨b,o+i*4+2,none⟩=some (.slice (S i).ia (S i).il (S i).ic)/\w.cell? ⟨b,o+i*4+3,none⟩=some (.slice (S i).ta (S i).tl (S i).tc))
  (hK:∀ i,i<n->∀ W,Below w.heap.size w W->yL K (#[.agg #[.slice (S i).sa (S i).sl (S i).sc,.slice (S i).ha (S i).hl (S i).hc,.slice (S i).ia (S i).il (S i).ic,.slice (S i).ta (S i).tl (S i).tc]] ++ J) W fun e W' => e=.returned (.int .i64 (f i))/\Below W.heap.size W W') :
  yL 31 #[.slice a n c,.func (.func K) #[] J] w fun e w' => e=.returned (.int .i64 (zao ((List.range n).map f)))/\Below w.heap.size w w' := by
 have HS:Hid _:=hs;have HK:Hid _:=hK;clear hs hK
 go_enter Tryz.func31,Tryz.ntmps31
 go_wp2
 go_loopg [10] n (fun m s10 wr=>∃ k:Nat,k<=n/\n-k<=m/\s10=.int .i64 k/\Below w.heap.size w wr/\Hid (∀ i,i<k->f i=0))
 case atStart=>exact⟨0,by omega,by omega,rfl,yk _ _,fun i hi=>absurd hi (yw _)⟩
 case round =>
  obtain⟨k,hk,hg,rfl,F,O⟩:=hrel;by_cases M:k<n
  ·have a5:(k:Int)<(n:Int):=(by omega);obtain⟨b,o,rfl,c0,c1,c2,c3⟩:=HS.out k M;replace c0:=zab c0 F;replace c1:=zab c1 F;replace c2:=zab c2 F;replace c3:=zab c3 F;have D:Hid (∀ W,Below wr.heap.size wr W->Calls _ _ _ _ _):=fun W hW=>HK.out k M W (F.trans (hW.mono F.size));have U:Hid (f k≠0->zao ((List.range n).map f)=f k):=fun h=>ziC O.out M h;generalize S k=x at *;obtain⟨b2,b4,b3,a6,a8,a7,a9,b1,b0,b5,b7,b6⟩:=x;dsimp only at c0 c1 c2 c3 D;obtain⟨E,hE⟩:∃ E,f k=E:=⟨_,rfl⟩;have HE:Hid (f k=E):=hE;rw[hE] at D U;clear hE;by_cases Z:E=0
   ·subst Z
    go_wp2_with (go_at_fn K;refine(D.out _ ?nd).mono ?_;(case nd=>exact zaa _ _);rintro e w3 ⟨rfl,I⟩;have T:Hid (Below w.heap.size w w3):=F.trans (((zaa _ _).trans (I.mono (by simp))).mono F.size);clear I)
    go_roundg (n-(k+1))
    case measure=>omega
    case rel =>
     refine⟨k+1,by omega,by omega,by go_num,T.out,(show Hid _ from fun i hi=>?_)⟩;by_cases e:i=k
     ·rw[e,HE.out]
     ·exact O.out i (by omega)
   ·have hz:(E == 0)=false:=(by simp[Z]);have FB:Hid (zao ((List.range n).map f)=E):=U.out Z;clear U
    go_wp2_with (go_at_fn K;refine(D.out _ ?nd).mono ?_;(case nd=>exact zaa _ _);rintro e w3 ⟨rfl,I⟩;have T:Hid (Below w.heap.size w w3):=F.trans (((zaa _ _).trans (I.mono (by simp))).mono F.size);clear I)
    go_ret;exact⟨by rw[FB.out];rfl,T.out⟩
  ·have:k=n:=(by omega);subst this
   go_wp2
   go_ret;exact⟨by rw[zea O.out];rfl,F⟩
theorem zsn(K:Nat)(I:Array Value)(eg:∀ args w,(callFunc K args).run Tryz.prog w=.ok (.enter K args) w)(a:Option Addr)(c n:Nat)(S:Nat->EPg)(f:Nat->Int)(w:World)(hn:n<=9223372036854775807)
  (hs:∀ i,i<n->∃ b o,a=some ⟨b,o,none⟩/\w.cell? ⟨b,o+i,none⟩=some (.slice (S i).pa (S i).pl (S i).pc))
  (hK:∀ i,i<n->∀ W,Below w.heap.size w W->yL K (#[.slice (S i).pa (S i).pl (S i).pc] ++ I) W fun e W' => e=.returned (.int .i64 (f i))/\Below W.heap.size W W') :
  yL 33 #[.slice a n c,.func (.func K) #[] I] w fun e w' => e=.returned (.int .i64 (zao ((List.range n).map f)))/\Below w.heap.size w w' := by
 have HS:Hid _:=hs;have HK:Hid _:=hK;clear hs hK
 go_enter Tryz.func33,Tryz.ntmps33
 go_wp2
 go_loopg [10] n (fun m s10 wr=>∃ k:Nat,k<=n/\n-k<=m/\s10=.int .i64 k/\Below w.heap.size w wr/\Hid (∀ i,i<k->f i=0))
 case atStart=>exact⟨0,by omega,by omega,rfl,yk _ _,fun i hi=>absurd hi (yw _)⟩
 case round =>
  obtain⟨k,hk,hg,rfl,J,O⟩:=hrel;by_cases M:k<n
  ·have a5:(k:Int)<(n:Int):=(by omega);obtain⟨b,o,rfl,c0⟩:=HS.out k M;replace c0:=zab c0 J;have D:Hid (∀ W,Below wr.heap.size wr W->Calls _ _ _ _ _):=fun W hW=>HK.out k M W (J.trans (hW.mono J.size));have U:Hid (f k≠0->zao ((List.range n).map f)=f k):=fun h=>ziC O.out M h;generalize S k=x at *;obtain⟨a6,a8,a7⟩:=x;dsimp only at c0 D;obtain⟨E,hE⟩:∃ E,f k=E:=⟨_,rfl⟩;have HE:Hid (f k=E):=hE;rw[hE] at D U;clear hE;by_cases Z:E=0
   ·subst Z
    go_wp2_with (go_at_fn K;refine(D.out _ ?nd).mono ?_;(case nd=>exact yk _ _);rintro e w3 ⟨rfl,F⟩;have T:Hid (Below w.heap.size w w3):=J.trans (F.mono J.size);clear F)
    go_roundg (n-(k+1))
    case measure=>omega
    case rel =>
     refine⟨k+1,by omega,by omega,by go_num,T.out,(show Hid _ from fun i hi=>?_)⟩;by_cases e:i=k
     ·rw[e,HE.out]
     ·exact O.out i (by omega)
   ·have hz:(E == 0)=false:=(by simp[Z]);have FB:Hid (zao ((List.range n).map f)=E):=U.out Z;clear U
    go_wp2_with (go_at_fn K;refine(D.out _ ?nd).mono ?_;(case nd=>exact yk _ _);rintro e w3 ⟨rfl,F⟩;have T:Hid (Below w.heap.size w w3):=J.trans (F.mono J.size);clear F)
    go_ret;exact⟨by rw[FB.out];rfl,T.out⟩
  ·have:k=n:=(by omega);subst this
   go_wp2
   go_ret;exact⟨by rw[zea O.out];rfl,J⟩
theorem zso(K:Nat)(I:Array Value)(eg:∀ args w,(callFunc K args).run Tryz.prog w=.ok (.enter K args) w)(a:Option Addr)(c n:Nat)(S:Nat->EQu)(f:Nat->Int)(w:World)(hn:n<=9223372036854775807)
  (hs:∀ i,i<n->∃ b o,a=some ⟨b,o,none⟩/\w.cell? ⟨b,o+i,none⟩=some (.slice (S i).qa (S i).ql (S i).qc))
  (hK:∀ i,i<n->∀ W,Below w.heap.size w W->yL K (#[.slice (S i).qa (S i).ql (S i).qc] ++ I) W fun e W' => e=.returned (.int .i64 (f i))/\Below W.heap.size W W') :
  yL 35 #[.slice a n c,.func (.func K) #[] I] w fun e w' => e=.returned (.int .i64 (zao ((List.range n).map f)))/\Below w.heap.size w w' := by
 have HS:Hid _:=hs;have HK:Hid _:=hK;clear hs hK
 go_enter Tryz.func35,Tryz.ntmps35
 go_wp2
 go_loopg [10] n (fun m s10 wr=>∃ k:Nat,k<=n/\n-k<=m/\s10=.int .i64 k/\Below w.heap.size w wr/\Hid (∀ i,i<k->f i=0))
 case atStart=>exact⟨0,by omega,by omega,rfl,yk _ _,fun i hi=>absurd hi (yw _)⟩
 case round =>
  obtain⟨k,hk,hg,rfl,J,O⟩:=hrel;by_cases M:k<n
  ·have a5:(k:Int)<(n:Int):=(by omega);obtain⟨b,o,rfl,c0⟩:=HS.out k M;replace c0:=zab c0 J;have D:Hid (∀ W,Below wr.heap.size wr W->Calls _ _ _ _ _):=fun W hW=>HK.out k M W (J.trans (hW.mono J.size));have U:Hid (f k≠0->zao ((List.range n).map f)=f k):=fun h=>ziC O.out M h;generalize S k=x at *;obtain⟨a6,a8,a7⟩:=x;dsimp only at c0 D;obtain⟨E,hE⟩:∃ E,f k=E:=⟨_,rfl⟩;have HE:Hid (f k=E):=hE;rw[hE] at D U;clear hE;by_cases Z:E=0
   ·subst Z
    go_wp2_with (go_at_fn K;refine(D.out _ ?nd).mono ?_;(case nd=>exact yk _ _);rintro e w3 ⟨rfl,F⟩;have T:Hid (Below w.heap.size w w3):=J.trans (F.mono J.size);clear F)
    go_roundg (n-(k+1))
    case measure=>omega
    case rel =>
     refine⟨k+1,by omega,by omega,by go_num,T.out,(show Hid _ from fun i hi=>?_)⟩;by_cases e:i=k
     ·rw[e,HE.out]
     ·exact O.out i (by omega)
   ·have hz:(E == 0)=false:=(by simp[Z]);have FB:Hid (zao ((List.range n).map f)=E):=U.out Z;clear U
    go_wp2_with (go_at_fn K;refine(D.out _ ?nd).mono ?_;(case nd=>exact yk _ _);rintro e w3 ⟨rfl,F⟩;have T:Hid (Below w.heap.size w w3):=J.trans (F.mono J.size);clear F)
    go_ret;exact⟨by rw[FB.out];rfl,T.out⟩
  ·have:k=n:=(by omega);subst this
   go_wp2
   go_ret;exact⟨by rw[zea O.out];rfl,J⟩
theorem zsm(K:Nat)(J:Array Value)(eg:∀ args w,(callFunc K args).run Tryz.prog w=.ok (.enter K args) w)(a:Option Addr)(c n:Nat)(S:Nat->EMl)(f:Nat->Int)(w:World)(hn:n<=9223372036854775807)
  (hs:∀ i,i<n->∃ b o,a=some ⟨b,o,none⟩/\w.cell? ⟨b,o+i*2,none⟩=some (.int .i64 (S i).f)/\w.cell? ⟨b,o+i*2+1,none⟩=some (.slice (S i).ga (S i).gl (S i).gc))
  (hK:∀ i,i<n->∀ W,Below w.heap.size w W->yL K (#[.agg #[.int .i64 (S i).f,.slice (S i).ga (S i).gl (S i).gc]] ++ J) W fun e W' => e=.returned (.int .i64 (f i))/\Below W.heap.size W W') :
  yL 68 #[.slice a n c,.func (.func K) #[] J] w fun e w' => e=.returned (.int .i64 (zao ((List.range n).map f)))/\Below w.heap.size w w' := by
 have HS:Hid _:=hs;have HK:Hid _:=hK;clear hs hK
 go_enter Tryz.func68,Tryz.ntmps68
 go_wp2
 go_loopg [10] n (fun m s10 wr=>∃ k:Nat,k<=n/\n-k<=m/\s10=.int .i64 k/\Below w.heap.size w wr/\Hid (∀ i,i<k->f i=0))
 case atStart=>exact⟨0,by omega,by omega,rfl,yk _ _,fun i hi=>absurd hi (yw _)⟩
 case round =>
  obtain⟨k,hk,hg,rfl,I,O⟩:=hrel;by_cases M:k<n
  ·have a5:(k:Int)<(n:Int):=(by omega);obtain⟨b,o,rfl,c0,c1⟩:=HS.out k M;replace c0:=zab c0 I;replace c1:=zab c1 I;have D:Hid (∀ W,Below wr.heap.size wr W->Calls _ _ _ _ _):=fun W hW=>HK.out k M W (I.trans (hW.mono I.size));have U:Hid (f k≠0->zao ((List.range n).map f)=f k):=fun h=>ziC O.out M h;generalize S k=x at *;obtain⟨xf,a6,a8,a7⟩:=x;dsimp only at c0 c1 D;obtain⟨E,hE⟩:∃ E,f k=E:=⟨_,rfl⟩;have HE:Hid (f k=E):=hE;rw[hE] at D U;clear hE;by_cases Z:E=0
   ·subst Z
    go_wp2_with (go_at_fn K;refine(D.out _ ?nd).mono ?_;(case nd=>exact zaa _ _);rintro e w3 ⟨rfl,F⟩;have T:Hid (Below w.heap.size w w3):=I.trans (((zaa _ _).trans (F.mono (by simp))).mono I.size);clear F)
    go_roundg (n-(k+1))
    case measure=>omega
    case rel =>
     refine⟨k+1,by omega,by omega,by go_num,T.out,(show Hid _ from fun i hi=>?_)⟩;by_cases e:i=k
     ·rw[e,HE.out]
     ·exact O.out i (by omega)
   ·have hz:(E == 0)=false:=(by simp[Z]);have FB:Hid (zao ((List.range n).map f)=E):=U.out Z;clear U
    go_wp2_with (go_at_fn K;refine(D.out _ ?nd).mono ?_;(case nd=>exact zaa _ _);rintro e w3 ⟨rfl,F⟩;have T:Hid (Below w.heap.size w w3):=I.trans (((zaa _ _).trans (F.mono (by simp))).mono I.size);clear F)
    go_ret;exact⟨by rw[FB.out];rfl,T.out⟩
  ·have:k=n:=(by omega);subst this
   go_wp2
   go_ret;exact⟨by rw[zea O.out];rfl,I⟩
theorem zwA{α:Type}(d:α){n:Nat}{P:Nat->α->Prop}(h:∀ i,i<n->∃ a,P i a):∃ f:Nat->α,∀ i,i<n->P i (f i):=by
 refine⟨fun i=>if hi:i<n then Classical.choose (h i hi) else d,fun i hi=>?_⟩;dsimp only;rw[dif_pos hi];exact Classical.choose_spec (h i hi)
abbrev zAL(w:World)(a:Option Addr)(rs:List Rl)(i:Nat)(A:RA):Prop:=(∃ b o,a=some ⟨b,o,none⟩/\w.cell? ⟨b,o+i*4,none⟩=some (.slice A.a0 (rl rs i).s.length A.c0)/\w.cell? ⟨b,o+i*4+1,none⟩=some (.slice A.a1 (rl rs i).hs.length A.c1)/\w.cell? ⟨b,o+i*4+2,none⟩=some (.slice A.a2 (rl rs i).i.length A.c2)/\w.cell? ⟨b,o+i*4+3,none⟩=some (.slice A.a3 (rl rs i).t.length A.c3))/\zdd w A (rl rs i)
abbrev zAJ(w:World)(a:Option Addr)(ps:List (List Ac))(i:Nat)(A:Option Addr × Nat):Prop:=(∃ b o,a=some ⟨b,o,none⟩/\w.cell? ⟨b,o+i,none⟩=some (.slice A.1 (pg ps i).length A.2))/\zbE w A.1 (pg ps i)
abbrev zAK(w:World)(a:Option Addr)(qs:List (List Ml))(i:Nat)(A:Option Addr × Nat):Prop:=(∃ b o,a=some ⟨b,o,none⟩/\w.cell? ⟨b,o+i,none⟩=some (.slice A.1 (qu qs i).length A.2))/\ziq w A.1 (qu qs i)
theorem zpE{w:World}{a:Option Addr}{rs:List Rl}(D:zmk w a rs):∃ f:Nat->RA,∀ i,i<rs.length->zAL w a rs i (f i):=zwA (P:=zAL w a rs) ⟨none,none,none,none,0,0,0,0⟩ (fun i hi=>by
 obtain⟨b,o,A,e,E,F,I,J,D⟩:=D i hi;exact⟨A,⟨b,o,e,E,F,I,J⟩,D⟩)
theorem zpB{w:World}{a:Option Addr}{ps:List (List Ac)}(E:zjW w a ps):∃ f:Nat->Option Addr × Nat,∀ i,i<ps.length->zAJ w a ps i (f i):=zwA (P:=zAJ w a ps) (none,0) (fun i hi=>by
 obtain⟨b,o,pa,pc,e,F,D⟩:=E i hi;exact⟨(pa,pc),⟨b,o,e,F⟩,D⟩)
theorem zpC{w:World}{a:Option Addr}{qs:List (List Ml)}(E:zmj w a qs):∃ f:Nat->Option Addr × Nat,∀ i,i<qs.length->zAK w a qs i (f i):=zwA (P:=zAK w a qs) (none,0) (fun i hi=>by
 obtain⟨b,o,pa,pc,e,F,_,D⟩:=E i hi;exact⟨(pa,pc),⟨b,o,e,F⟩,D⟩)
theorem ztg:(Tryz.prog.info? 61).map (fun i=>(i.zero,i.size,i.bytes))=some (some (.agg #[.int .i64 0,.int .i64 0]),2,16):=by kernel_rfl
theorem zov(w:World):(Instr.makeSlice 44 (.int .i64 16) (.int .i64 16)).run Tryz.prog w=.ok (.slice (some ⟨w.heap.size,0,none⟩) 16 16) (w.alloc (.cells (madeCells #[.int .i64 0,.int .i64 0] 32) 61)):=by
 obtain⟨i,hi,D,E,F⟩:=info_parts ztg;have h:=run_make (P:=Tryz.prog) w 44 61 i _ Tryz.underlying44 hi D .i64 .i64 16 16 (by omega) (by omega) (by rw[F];omega) (by omega);rw[E] at h;exact h
theorem zpD(n i:Nat)(h:i<n):(List.replicate n ((0:Int),(0:Int))).getD i (0,0)=(0,0):=by
 rw[zae _ _ (by rw[List.length_replicate];exact h),List.getElem_replicate]
theorem zmX(n j:Nat)(h:j<n):(madeCells #[.int .i64 0,.int .i64 0] n)[j]?=some (.int .i64 0):=by
 have D:j % 2=0\/j % 2=1:=by omega
 rcases D with D|D <;> simp[madeCells,h,D]
theorem zqA(W:World):zaw (W.alloc (.cells (madeCells #[.int .i64 0,.int .i64 0] 32) 61)) (some ⟨W.heap.size,0,none⟩) (List.replicate 16 (0,0)):=fun i hi=>by
 rw[List.length_replicate] at hi;refine⟨W.heap.size,0,rfl,?_,?_⟩
 ·rw[zpD 16 i hi];exact zad W _ _ _ (zmX _ _ (by omega))
 ·rw[zpD 16 i hi];exact zad W _ _ _ (zmX _ _ (by omega))
end Go.Proofs.YtcbcpomacdngmaaGreat
