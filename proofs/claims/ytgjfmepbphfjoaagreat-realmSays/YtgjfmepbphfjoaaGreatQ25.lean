/-
  x
-/
import Derived.Test.YtgjfmepbphfjoaaGreatQ24
import Derived.Maps.AppendAt
namespace Go.Proofs.YtgjfmepbphfjoaaGreat
set_option maxRecDepth 100000
set_option maxHeartbeats 4000000
set_option linter.unusedVariables false
open Go.RowKit
theorem zlr(x a b:Int)(w:World) :
  Calls Tryz.prog 36 #[.int .i64 x,.int .i64 a,.int .i64 b] w fun e w' => e=.returned (.bool (decide (a<=x/\x<=b)))/\w' = w:=by
 by_cases h1:a<=x
 ·by_cases A:x<=b
  ·rw[decide_eq_true ⟨h1,A⟩]
   go_enter Tryz.func36,Tryz.ntmps36
   go_wp2
   go_ret;exact⟨rfl,rfl⟩
  ·rw[decide_eq_false (fun h=>A h.2)];have D:decide (x<=b)=false:=decide_eq_false A
   go_enter Tryz.func36,Tryz.ntmps36
   go_wp2
   go_ret;exact⟨rfl,rfl⟩
 ·rw[decide_eq_false (fun h=>h1 h.1)];have D:decide (a<=x)=false:=decide_eq_false h1
  go_enter Tryz.func36,Tryz.ntmps36
  go_wp2
  go_ret;exact⟨rfl,rfl⟩
theorem zpd(x a b:Int)(h:a<=x/\x<=b)(w:World):Calls Tryz.prog 36 #[.int .i64 x,.int .i64 a,.int .i64 b] w fun e w' => e=.returned (.bool true)/\w' = w:=by
 have:=zlr x a b w
 rwa [decide_eq_true h] at this
theorem zrc(x a b:Int)(h:¬ (a<=x/\x<=b))(w:World):Calls Tryz.prog 36 #[.int .i64 x,.int .i64 a,.int .i64 b] w fun e w' => e=.returned (.bool false)/\w' = w:=by
 have:=zlr x a b w
 rwa [decide_eq_false h] at this
theorem zkv(a:Option Addr)(c:Nat)(G:List Cl)(w:World)(hN:G.length<=9223372036854775807)(hB:zpp G)(hS:zaY w a G) :
  Calls Tryz.prog 29 #[.agg #[.slice a G.length c]] w fun e w' => e=.returned (.int .i64 (zbQ G))/\Below w.heap.size w w' := by
 unfold zbQ;by_cases O:24<G.length
 ·rw[yd O];generalize G.length=n at *;clear hS hB;have b4:(24:Int)<(n:Int):=by omega
  go_enter Tryz.func29,Tryz.ntmps29
  go_wp2
  go_ret;exact⟨rfl,zab _ _⟩
 ·rw[ya O];have HS:Hid (zaY w a G):=hS;have c8:Hid (zpp G):=hB;have DR:Hid (∀ k,k<G.length->G.drop k=cl G k :: G.drop (k+1)):=fun k hk=>znI hk;have DN:Hid (G.drop G.length=[]):=List.drop_length;have E0:Hid (cellsE G.length G=cellsE G.length (G.drop 0)):=rfl;clear hS hB;obtain⟨I,hR⟩:∃ r,cellsE G.length G=r:=⟨_,rfl⟩;rw[hR] at E0 |-;clear hR;obtain⟨n,hn⟩:∃ n,G.length=n:=⟨_,rfl⟩;have HN:Hid (G.length=n):=hn;rw[hn] at hN O DR DN E0 |-;clear hn;have b4:¬ (24:Int)<(n:Int):=by omega
  obtain⟨Q,hQ⟩:∃ Q,(n:Int)-1=Q:=⟨_,rfl⟩;have b9:-1<=Q/\Q<=23:=by omega
  have e8:IntKind.i64.wrap ((n:Int)-1)=Q:=by rw[hQ];have:=b9;unfold IntKind.wrap;simp[IntKind.bits,IntKind.signed];omega
  have HQ:Hid ((n:Int)-1=Q):=hQ;clear hQ b9
  go_enter Tryz.func29,Tryz.ntmps29
  go_wp2_with fail
  go_loopg [14] n (fun g s14 wr=>∃ k:Nat,k<=n/\n-k<=g/\s14=.int .i64 k/\Hid (Below w.heap.size w wr)/\wr.cell? ⟨w.heap.size,0,none⟩=some (.slice a n c)/\Hid (I=cellsE n (G.drop k)))
  case atStart=>exact⟨0,by omega,by omega,rfl,zab _ _,by go_simp,E0⟩
  case round =>
   obtain⟨k,hk,hg,rfl,HB,lb,A⟩:=hrel;have e7:=ye _ _ lb;by_cases b5:k<n
   ·have d7:(k:Int)<(n:Int):=by omega
    obtain⟨b,o,rfl,c0,ka,kc,c1,c7⟩:=(HS.out.below HB.out) k (by rw[HN.out];exact b5);have KS:Hid (zaj wr ka (cl G k).ks):=c7
    have EQ:Hid (I=if zdh n (cl G k)=0 then cellsE n (G.drop (k+1)) else zdh n (cl G k)):=by
     show _=_;rw[A.out,DR.out k b5];rfl
    have a7:=c8.out k (by rw[HN.out];exact b5);clear c7 A;generalize cl G k=x at *;obtain⟨T,D⟩:=x;dsimp only at c0 c1 KS a7;have b7:=zac lb (zab wr (.cells #[.int .i64 T,.slice ka D.length kc] 45));have Z:Hid (∀ o1,Below w.heap.size w (wr.alloc o1)):=fun o1=>HB.out.trans ((zab _ _).mono HB.out.size);by_cases h1:T < -1000000\/1000000<T
    ·have hE:zdh n ⟨T,D⟩=2:=by unfold zdh;rw[yd h1]
     have F:Hid (I=2):=by show _=_;rw[EQ.out,hE];rfl
     have IN:Hid _:=fun W=>zrc T (-1000000) 1000000 (by omega) W;clear EQ hE h1;generalize D.length=l at *
     go_wp2_with fail
     refine yf (IN.out _) ?_;rintro e w1 ⟨rfl,hw⟩;subst hw
     go_wp2_with fail
     go_ret;exact⟨by rw[F.out];rfl,Z.out _⟩
    ·have IN:Hid _:=fun W=>zpd T (-1000000) 1000000 (by omega) W;by_cases h2:8<D.length
     ·have hE:zdh n ⟨T,D⟩=1:=by unfold zdh;rw[ya h1,yd h2]
      have F:Hid (I=1):=by show _=_;rw[EQ.out,hE];rfl
      clear EQ hE h1;generalize D.length=l at *;have h3:(8:Int)<(l:Int):=by omega
      go_wp2_with fail
      refine yf (IN.out _) ?_;rintro e w1 ⟨rfl,hw⟩;subst hw
      go_wp2_with fail
      go_ret;exact⟨by rw[F.out];rfl,Z.out _⟩
     ·have V:Hid ((∃ i,i<D.length/\¬ (0<=D.getD i 0/\D.getD i 0<=Q))->I=4):=fun⟨i,hi,d6⟩=>by
       have hE:zdh n ⟨T,D⟩=4:=by
        unfold zdh;rw[ya h1,ya h2,yd];rw[List.any_eq_true];refine⟨D.getD i 0,by rw[zaf _ _ hi];exact List.getElem_mem hi,?_⟩;rw[decide_eq_false (by rw[HQ.out];exact d6)];rfl
       rw[EQ.out,hE];rfl
      have U:Hid ((∀ i,i<D.length->(0<=D.getD i 0/\D.getD i 0<=Q))->I=cellsE n (G.drop (k+1))):=fun c6=>by
       have hE:zdh n ⟨T,D⟩=0:=by
        unfold zdh;rw[ya h1,ya h2,ya];rw[List.any_eq_true];rintro⟨y,hy,h5⟩;obtain⟨i,hi,rfl⟩:=List.getElem_of_mem hy;have h6:=c6 i hi;rw[zaf _ _ hi] at h6;rw[decide_eq_true (by rw[HQ.out];exact h6)] at h5;cases h5
       rw[EQ.out,hE,yd rfl]
      clear EQ h1;obtain⟨l,hl⟩:∃ l,D.length=l:=⟨_,rfl⟩;have HL:Hid (D.length=l):=hl;rw[hl] at c1 V U h2 a7 b7;clear hl;have h3:¬ (8:Int)<(l:Int):=by omega
      have b8:Hid (zaj (wr.alloc (.cells #[.int .i64 T,.slice ka l kc] 45)) ka D):=KS.out.below (zab _ _)
      go_wp2_with fail
      refine yf (IN.out _) ?_;rintro e w1 ⟨rfl,hw⟩;have a4:=hw.symm;clear hw IN;obtain⟨W1,a9⟩:∃ W1,wr.alloc (.cells #[.int .i64 T,.slice ka l kc] 45)=W1:=⟨_,rfl⟩;have a5:Hid (Below w.heap.size w W1):=by rw[<- a9];exact Z.out _
      have d9:W1.cell? ⟨wr.heap.size,1,none⟩=some (.slice ka l kc):=by rw[<- a9];exact zad wr _ _ 1 rfl
      rw[a9] at b8 b7 a4;subst a4;clear Z
      go_wp2_with fail
      go_loopg [29] l (fun g s29 w5=>∃ j:Nat,j<=l/\l-j<=g/\s29=.int .i64 j/\w5=W1/\Hid (∀ i,i<j->(0<=D.getD i 0/\D.getD i 0<=Q)))
      case atStart=>exact⟨0,by omega,by omega,rfl,rfl,fun i hi=>absurd hi (yr _)⟩
      case round =>
       obtain⟨j,hj,e0,rfl,hw,M⟩:=hrel;have a4:=hw.symm;clear hw;subst a4;by_cases a6:j<l
       ·have d8:(j:Int)<(l:Int):=by omega
        obtain⟨kb,ko,ek,e6⟩:=b8.out j (by rw[HL.out];exact a6);subst ek;by_cases J:0<=D.getD j 0/\D.getD j 0<=Q
        ·have a8:Hid _:=fun W=>zpd (D.getD j 0) 0 Q J W
         have NX:Hid (∀ i,i<j+1->(0<=D.getD i 0/\D.getD i 0<=Q)):=fun i hi=>by
          by_cases e:i=j
          ·subst e;exact J
          ·exact M.out i (by omega)
         clear M J;generalize D.getD j 0=y at *
         go_wp2_with fail
         refine yf (a8.out _) ?_;rintro e w6 ⟨rfl,b6⟩;subst b6
         go_wp2_with fail
         go_roundg (l-(j+1))
         case measure=>omega
         case rel=>exact⟨j+1,by omega,by omega,by go_num,rfl,NX⟩
        ·have a8:Hid _:=fun W=>zrc (D.getD j 0) 0 Q J W;have F:Hid (I=4):=V.out ⟨j,a6,J⟩;clear M J V U;generalize D.getD j 0=y at *
         go_wp2_with fail
         refine yf (a8.out _) ?_;rintro e w6 ⟨rfl,b6⟩;subst b6
         go_wp2_with fail
         go_ret;exact⟨by rw[F.out];rfl,a5.out⟩
       ·have c9:l=j:=by omega
        subst c9;have F:Hid (I=cellsE n (G.drop (k+1))):=U.out M.out;clear M V U
        go_wp2_with fail
        go_roundg (n-(k+1))
        case measure=>omega
        case rel=>exact⟨k+1,by omega,by omega,by go_num,a5,b7,F⟩
   ·have:n=k:=by omega
    subst this;have F:Hid (I=0):=by show _=_;rw[A.out,DN.out];rfl
    clear A
    go_wp2_with fail
    go_ret;exact⟨by rw[F.out];rfl,HB.out⟩
def zbW:Prop:=∀ (S:List Nd),S.length<=9223372036854775807->Big S->∀ a c,zeu a c S
theorem zbW.wf(h:zbW){S:List Nd}(wf:WF S)(a:Option Addr)(c:Nat):zeu a c S:=h S (by have:=wf.small;omega) wf.big a c
theorem zbk(E:Int)(w:World) :
  Calls Tryz.prog 35 #[.int .i64 E] w fun e w' => e=.returned (.tuple #[.agg #[.slice none 0 0,.slice none 0 0,.slice none 0 0,.slice none 0 0],.int .i64 0,.int .i64 E])/\Below w.heap.size w w' := by
 go_enter Tryz.func35,Tryz.ntmps35
 go_wp2_with fail
 refine yq (v:=.tuple #[.agg #[.slice none 0 0,.slice none 0 0,.slice none 0 0,.slice none 0 0],.int .i64 0,.int .i64 E]) (by simp[results,Tryz.results35,go_sem]) rfl ⟨rfl,?_⟩;exact zab _ _
theorem zks(hK:zbW)(A:RA)(R:Rl)(w:World)(hB:ziu R)(hL:zaS w A R) :
  Calls Tryz.prog 12 #[rlV A R] w fun e w' => e=.returned (.int .i64 (zaB R))/\Below w.heap.size w w' := by
 obtain⟨a0,a1,a2,a3,c0,c1,c2,c3⟩:=A;have D1:Hid (∀ W,zae W a0 R.s->Calls Tryz.prog 28 #[.agg #[.slice a0 R.s.length c0]] W fun e w' => e=.returned (.int .i64 (zaD R.s))/\Below W.heap.size W w'):=hK R.s hB.1 hB.2.1 a0 c0;have D2:Hid (∀ W,zaY W a2 R.i->_):=fun W hW=>zkv a2 c2 R.i W hB.2.2.2.1 hB.2.2.2.2.1 hW;have O:Hid (zaS w ⟨a0,a1,a2,a3,c0,c1,c2,c3⟩ R):=hL;unfold zaB;dsimp only[rlV];clear hK hL hB;by_cases h1:zaD R.s=0
 ·rw[yd h1];rw[h1] at D1;by_cases h2:R.hs.length=16
  ·rw[yd h2,h2];by_cases T:zbQ R.i=0
   ·rw[yd T];rw[T] at D2;by_cases h4:4800<R.t.length
    ·rw[yd h4];have g1:decide ((4800:Int)<(R.t.length:Int))=true:=decide_eq_true (by omega);clear h1 h2 T;generalize R.t.length=n3 at *;generalize R.s.length=n0 at *;generalize R.i.length=n2 at *
     go_enter Tryz.func12,Tryz.ntmps12
     go_wp2_with fail
     refine yf (D1.out _ (O.out.1.below (zab _ _))) ?_;rintro e M ⟨rfl,F⟩;have D:Hid (Below w.heap.size w M):=(zab w _).trans (F.mono (by simp));obtain⟨V,Z,l2,J,U,lt⟩:=zaa ((F.block _ (by simp)).trans (zbS _ _ _ _ _ _));clear F
     go_wp2_with fail
     refine yf (D2.out _ (O.out.2.2.1.below D.out)) ?_;rintro e w2 ⟨rfl,F⟩;have I:Hid (Below w.heap.size w w2):=D.out.trans (F.mono D.out.size);have k3:=zac J F;clear F V Z l2 J U lt
     go_wp2_with fail
     go_ret;exact⟨rfl,I.out⟩
    ·rw[ya h4];have g1:decide ((4800:Int)<(R.t.length:Int))=false:=decide_eq_false (by omega);clear h1 h2 T;generalize R.t.length=n3 at *;generalize R.s.length=n0 at *;generalize R.i.length=n2 at *
     go_enter Tryz.func12,Tryz.ntmps12
     go_wp2_with fail
     refine yf (D1.out _ (O.out.1.below (zab _ _))) ?_;rintro e M ⟨rfl,F⟩;have D:Hid (Below w.heap.size w M):=(zab w _).trans (F.mono (by simp));obtain⟨V,Z,l2,J,U,lt⟩:=zaa ((F.block _ (by simp)).trans (zbS _ _ _ _ _ _));clear F
     go_wp2_with fail
     refine yf (D2.out _ (O.out.2.2.1.below D.out)) ?_;rintro e w2 ⟨rfl,F⟩;have I:Hid (Below w.heap.size w w2):=D.out.trans (F.mono D.out.size);have k3:=zac J F;clear F V Z l2 J U lt
     go_wp2_with fail
     go_ret;exact⟨rfl,I.out⟩
   ·rw[ya T];have g1:decide (zbQ R.i=0)=false:=decide_eq_false T;have g2:(zbQ R.i == 0)=false:=beq_eq_false_iff_ne.2 T;clear h1 h2 T;generalize zbQ R.i=E at *;generalize R.t.length=n3 at *;generalize R.s.length=n0 at *;generalize R.i.length=n2 at *
    go_enter Tryz.func12,Tryz.ntmps12
    go_wp2_with fail
    refine yf (D1.out _ (O.out.1.below (zab _ _))) ?_;rintro e M ⟨rfl,F⟩;have D:Hid (Below w.heap.size w M):=(zab w _).trans (F.mono (by simp));obtain⟨V,Z,l2,J,U,lt⟩:=zaa ((F.block _ (by simp)).trans (zbS _ _ _ _ _ _));clear F
    go_wp2_with fail
    refine yf (D2.out _ (O.out.2.2.1.below D.out)) ?_;rintro e w2 ⟨rfl,F⟩;have I:Hid (Below w.heap.size w w2):=D.out.trans (F.mono D.out.size);have k3:=zac J F;clear F V Z l2 J U lt
    go_wp2_with fail
    go_ret;exact⟨rfl,I.out⟩
  ·rw[ya h2];have g1:decide ((R.hs.length:Int)=16)=false:=decide_eq_false (by omega);have g2:((R.hs.length:Int) == 16)=false:=beq_eq_false_iff_ne.2 (by omega);have g3:((R.hs.length:Int) != 16)=true:=by simp;omega
   clear h1;generalize R.t.length=n3 at *;generalize R.hs.length=n1 at *;generalize R.s.length=n0 at *;generalize R.i.length=n2 at *
   go_enter Tryz.func12,Tryz.ntmps12
   go_wp2_with fail
   refine yf (D1.out _ (O.out.1.below (zab _ _))) ?_;rintro e M ⟨rfl,F⟩;have D:Hid (Below w.heap.size w M):=(zab w _).trans (F.mono (by simp));obtain⟨V,Z,l2,J,U,lt⟩:=zaa ((F.block _ (by simp)).trans (zbS _ _ _ _ _ _));clear F
   go_wp2_with fail
   go_ret;exact⟨rfl,D.out⟩
 ·rw[ya h1];have g1:decide (zaD R.s=0)=false:=decide_eq_false h1;have g2:(zaD R.s == 0)=false:=beq_eq_false_iff_ne.2 h1;clear h1;generalize zaD R.s=E at *;generalize R.t.length=n3 at *;generalize R.hs.length=n1 at *;generalize R.s.length=n0 at *;generalize R.i.length=n2 at *
  go_enter Tryz.func12,Tryz.ntmps12
  go_wp2_with fail
  refine yf (D1.out _ (O.out.1.below (zab _ _))) ?_;rintro e M ⟨rfl,F⟩;have D:Hid (Below w.heap.size w M):=(zab w _).trans (F.mono (by simp));obtain⟨V,Z,l2,J,U,lt⟩:=zaa ((F.block _ (by simp)).trans (zbS _ _ _ _ _ _));clear F
  go_wp2_with fail
  go_ret;exact⟨rfl,D.out⟩
def hcells(L:List (Int × Int)):List Value:=L.flatMap fun h=>[.int .i64 h.1,.int .i64 h.2]
theorem zhk(L:List (Int × Int)):(hcells L).length=L.length*2:=by
 unfold hcells
 induction L with
 | nil=>rfl
 | cons x r w=>rw[List.flatMap_cons,List.length_append,w];simp;omega
theorem zbt(L:List (Int × Int))(i:Nat)(w:i<L.length):(hcells L)[i*2]?=some (.int .i64 (L.getD i (0,0)).1)/\(hcells L)[i*2+1]?=some (.int .i64 (L.getD i (0,0)).2):=by
 unfold hcells
 induction L generalizing i with
 | nil=>exact absurd w (yr _)
 | cons x r A =>
  rw[List.flatMap_cons]
  match i,w with
  | 0,_=>exact⟨rfl,rfl⟩
  | i+1,w =>
   have h:=A i (by simpa using w);have e1:(i+1)*2=i*2+1+1:=by omega
   rw[e1];exact h
theorem zma(L:List (Int × Int)):∀ u ∈ hcells L,u.oneCell' = true:=fun u w=>by
 unfold hcells at w;rw[List.mem_flatMap] at w;obtain⟨x,_,hx⟩:=w;simp at hx;rcases hx with rfl|rfl <;> rfl
theorem zod{w:World}{b o:Nat}{L:List (Int × Int)}(h:zam w (some ⟨b,o,none⟩) L):∀ j u,(hcells L)[j]?=some u->w.cell? ((⟨b,o,none⟩:Addr).add j)=some u:=fun j u A=>by
 have hl:j<L.length*2:=by
  rw[<- zhk];exact(List.getElem?_eq_some_iff.1 A).1
 obtain⟨J,M,e,h1,I⟩:=h (j / 2) (by omega);cases e;obtain⟨D,F⟩:=zbt L (j / 2) (by omega);rw[Addr.add_lit];by_cases e2:j % 2=0
 ·have e3:j / 2*2=j:=by omega
  rw[e3] at h1 D;rw[D] at A;cases A;exact h1
 ·have e3:j / 2*2+1=j:=by omega
  have e4:o+j / 2*2+1=o+j:=by omega
  rw[e4] at I;rw[e3] at F;rw[F] at A;cases A;exact I
theorem zsw(V:World):(V.alloc (.cells #[] 39)).ownsRow V.heap.size 39 2 (.slice (some ⟨V.heap.size,0,none⟩) 0 0) 0 []:=⟨by simp,Or.inr ⟨V.heap.size,0,#[],rfl,yi _,heap_alloc_new V _,by omega,by unfold maxLen;omega,by simp,by simp⟩⟩
theorem zsx(V:World):(V.alloc (.cells #[] 3)).ownsRow V.heap.size 3 1 (.slice (some ⟨V.heap.size,0,none⟩) 0 0) 0 []:=⟨by simp,Or.inr ⟨V.heap.size,0,#[],rfl,yi _,heap_alloc_new V _,by omega,by unfold maxLen;omega,by simp,by simp⟩⟩
theorem zkq{S:List Nd}(wf:WF S){p:Nat}(D:p<S.length):∀ {f:Nat},Deep S f p->∀ {w:Nat},Deep S w p->zaw S f p=zaw S w p:=by
 intro f
 induction f generalizing p with
 | zero =>
  intro h w A;have h0:(nd S p).ks=[]:=h
  cases w with
  | zero=>rfl
  | succ w=>simp[zaw,h0]
 | succ f J =>
  intro h w A
  cases w with
  | zero =>
   have h0:(nd S p).ks=[]:=A;simp[zaw,h0]
  | succ w =>
   simp only[zaw]
   congr 1
   refine zcB (fun x hx=>?_);obtain⟨k,rfl,h1,_,_,_,F⟩:=wf.kid_deep D h hx;obtain⟨k', e,_,_,_,_,I⟩:=wf.kid_deep D A hx;have:k=k' := by omega
   subst this;rw[yg];exact J h1 F I
theorem zmv{S:List Nd}(wf:WF S){p:Nat}(D:p<S.length):zan S p=(p:Int) ::(nd S p).ks.flatMap fun k=>zan S k.toNat:=by
 have A:=wf.deep_all D;unfold zan
 cases hn:S.length with
 | zero=>omega
 | succ f =>
  rw[hn] at A;rw[zaw]
  congr 1
  refine zcB (fun x hx=>?_);obtain⟨k,rfl,h1,_,_,_,F⟩:=wf.kid_deep D A hx;rw[yg];have w:=wf.deep_all h1;rw[hn] at w;exact zkq wf h1 F w
def zjx(S:List Nd)(st:List Int):List Int:=st.reverse.flatMap fun k=>zan S k.toNat
theorem zqK{S:List Nd}(wf:WF S){p:Nat}(w:p<S.length)(st:List Int):zjx S (st++[(p:Int)])=(p:Int) :: zjx S (st++(nd S p).ks.reverse):=by
 unfold zjx;rw[List.reverse_append,List.reverse_append,List.reverse_reverse];simp only[List.reverse_cons,List.reverse_nil,List.nil_append,List.singleton_append,List.flatMap_cons,List.flatMap_append,yg];rw[zmv wf w];simp
theorem zrY{S:List Nd}(w:∀ k,0<(zan S k).length):∀ st:List Int,st.length<=(zjx S st).length:=fun st=>by
 unfold zjx
 have:∀ l:List Int,l.length<=(l.flatMap fun k=>zan S k.toNat).length:=fun l=>by
  induction l with
  | nil=>simp
  | cons x l A =>
   rw[List.flatMap_cons,List.length_append,List.length_cons];have:=w x.toNat;omega
 have:=this st.reverse;rw[List.length_reverse] at this;exact this
theorem zhs(S:List Nd)(k:Nat):0<(zan S k).length:=by
 unfold zan
 cases S.length <;> simp[zaw]
theorem zrN{w:World}{B g m cap:Nat}{l:List Int}{x:Int}(hl:l.length=m)(h:w.ownsRow B 3 1 (.slice (some ⟨g,0,none⟩) (m+1) cap) (m+1) ((l++[x]).map (Value.int .i64))):w.ownsRow B 3 1 (.slice (some ⟨g,0,none⟩) m cap) m (l.map (Value.int .i64)):=by
 obtain⟨h0,h⟩:=h;rcases h with ⟨h,_⟩ |⟨T,D,A,e,h1,J,U,M,O,F⟩
 ·cases h
 ·cases e;refine⟨by simp[hl],Or.inr ⟨g,cap,A,rfl,h1,J,by omega,M,O,?_⟩⟩;rw[Nat.mul_one] at F |-;have I:(A.toList.take (m+1)).take m=((l++[x]).map (Value.int .i64)).take m:=by rw[F]
  rw[List.take_take,Nat.min_eq_left (by omega),List.map_append,List.take_append_of_le_length (by simp[hl])] at I;rw[I,List.take_of_length_le (by simp[hl])]
theorem zrP{w:World}{B g m cap:Nat}{l:List Int}{x:Int}(hl:l.length=m)(h:w.ownsRow B 3 1 (.slice (some ⟨g,0,none⟩) (m+1) cap) (m+1) ((l++[x]).map (Value.int .i64))):w.cell? ⟨g,m,none⟩=some (.int .i64 x)/\m+1<=cap/\cap<=9223372036854775807:=by
 have J:=h.cellAt m (by omega);rcases h.2 with ⟨h,_⟩ |⟨M,A,D,e,h1,O,F,I,_⟩
 ·cases h
 ·cases e;refine⟨?_,F,by unfold maxLen at I;omega⟩;rw[J,List.map_append,List.getElem?_append_right (by simp[hl])];simp[hl]
theorem zhC{W w2:World}{o1:Obj}{B e size U:Nat}{v v2 I:Value}{F:List Value}(J:W.ownsRow B e size I U F)(T:∀ k,v.ownBlock=some k->I.ownBlock≠some k)(w:(W.alloc o1).grownBy w2 v.ownBlock)(M:v2.ownBlock=v.ownBlock\/v2.ownBlock=some (W.alloc o1).heap.size) :
  w2.ownsRow B e size I U F/\∀ k,v2.ownBlock=some k->I.ownBlock≠some k:=by
 refine⟨zao J (fun k A=>?_),fun k A D=>?_⟩
 ·have O:=(J.lt k A).2;exact(w.block k (by simp;omega) (fun e=>T k e.symm A)).trans (Below.heap_alloc _ _ _ O)
 ·rcases M with h|h
  ·exact T k (by rw[<- h];exact A) D
  ·rw[h] at A;have:=(J.lt k D).2;simp at A;omega
theorem zrp(g m cap:Nat)(h:m+1<=cap):∀ W,(Instr.slice 29 (.slice (some ⟨g,0,none⟩) (m+1) cap) none (some (.int .i64 (m:Int))) none).run Tryz.prog W=.ok (.slice (some ⟨g,0,none⟩) m cap) W:=fun W=>by
 have h1:(m:Int)<=(cap:Int):=by omega
 have w:(0:Int)<=(m:Int):=by omega
 first|(go_simp;done)|(go_simp;omega)|(go_simp;intro h;omega)
theorem zgi{w A:World}{a:Option Addr}{n c:Nat}{p u:Int}{o3:Obj}(D:Below (w.heap.size+1+1+1) (((w.alloc (.cells #[.slice a n c] 24)).alloc (.cells #[.int .i64 p,.int .i64 u] 39)).alloc o3) A) :
  A.cell? ⟨w.heap.size,0,none⟩=some (.slice a n c)/\A.cell? ⟨w.heap.size+1,0,none⟩=some (.int .i64 p)/\w.heap.size+3<=A.heap.size/\Below w.heap.size w A:=by
 have hs:=D.size;simp only[yk] at hs;exact⟨(D.cell (by simp;omega)).trans (by go_simp),(D.cell (by simp;try omega)).trans (by go_simp),by omega,(zal _ _ _ _).trans (D.mono (by omega))⟩
theorem zqu(a:Option Addr)(c:Nat)(S:List Nd)(p u E:Int)(w:World)(hN:S.length<=9223372036854775807)(J:zeu a c S)(O:zae w a S)(M:zar S [(p,u)]=E)(A:E≠0) :
  Calls Tryz.prog 86 #[.agg #[.slice a S.length c],.agg #[.int .i64 p,.int .i64 u]] w fun e w' => e=.returned (.tuple #[.slice none 0 0,.int .i64 E])/\Below w.heap.size w w' := by
 have F:=fun(W:World) (T:Option Addr) (hW:zae W a S) (Z:zam W T [(p,u)])=>zbd a c S T 1 [(p,u)] W hN J hW (by simp) Z;rw[M] at F;have U:Hid _:=F;have V:Hid (zae w a S):=O;have hz:(E == 0)=false:=by simp[A]
 have a5:decide (E=0)=false:=decide_eq_false A;clear O J F M;generalize S.length=n at *
 go_enter Tryz.func86,Tryz.ntmps86
 go_wp2_with fail
 refine yf (U.out _ _ (V.out.below (zal _ _ _ _)) (zaV _ _ _ _ (by go_simp) (by go_simp))) ?_;rintro e w1 ⟨rfl,D⟩;simp only[yk] at D;obtain⟨l0,l1,a4,I⟩:=zgi D
 go_wp2_with fail
 refine yq (v:=.tuple #[.slice none 0 0,.int .i64 E]) (by simp[results,Tryz.results86,go_sem]) rfl ⟨rfl,I⟩
theorem zoR(a:Option Addr)(c:Nat)(S:List Nd)(k:Nat)(u:Int)(w:World)(wf:WF S)(hC:zeu a c S)(hS:zae w a S)(O:k<S.length)(hE:zar S [((k:Int),u)]=0) :
  Calls Tryz.prog 86 #[.agg #[.slice a S.length c],.agg #[.int .i64 (k:Int),.int .i64 u]] w fun e w' => ∃ v,e=.returned (.tuple #[v,.int .i64 0])/\Below w.heap.size w w' /\ w'.ownsRow w.heap.size 3 1 v (zan S k).length ((zan S k).map (Value.int .i64)):=by
 obtain⟨i0,g9,h9,i4,i5⟩:=info_parts info3;have hN:=wf.small;have df:=fun(W:World) (ha:Option Addr) (hW:zae W a S) (hH:zam W ha [((k:Int),u)])=>zbd a c S ha 1 [((k:Int),u)] W (by omega) hC hW (by simp) hH;rw[hE] at df;have DF:Hid _:=df;have HS:Hid (zae w a S):=hS;have PU:Hid (∀ (p:Nat) st,p<S.length->zjx S (st++[(p:Int)])=(p:Int) :: zjx S (st++(nd S p).ks.reverse)):=fun p st hp=>zqK wf hp st
 have KP:Hid (∀ (p:Nat),p<S.length->∀ x ∈ (nd S p).ks,∃ q:Nat,x=q/\q<S.length):=fun p hp x hx=>by
  obtain⟨q,e,h1,_⟩:=wf.kid hp hx;exact⟨q,e,h1⟩
 have KS:Hid (∀ (p:Nat),p<S.length->(nd S p).ks.length<=1000):=fun p hp=>by have:=wf.kids_small hp;omega
 have SL:Hid (∀ st,st.length<=(zjx S st).length):=zrY (zhs S);have RL:Hid ((zan S k).length<=24):=(yx (zdc wf O) hN:(zan S k).length<=24);have S0:Hid (zjx S [(k:Int)]=zan S k):=(by unfold zjx;simp:zjx S [(k:Int)]=zan S k);have SN:Hid (zjx S []=[]):=(rfl:zjx S []=[]);clear hS hC df hE wf;generalize zan S k=J at *;obtain⟨n,hn⟩:∃ n,S.length=n:=⟨_,rfl⟩;have HN:Hid (S.length=n):=hn;rw[hn] at hN O DF PU KP KS |-;clear hn
 go_enter Tryz.func86,Tryz.ntmps86
 go_wp2_with fail
 refine yf (DF.out _ _ (HS.out.below (zal _ _ _ _)) (zaV _ _ _ _ (by go_simp) (by go_simp))) ?_;rintro e w1 ⟨rfl,d7⟩;simp only[yk] at d7;obtain⟨l0,l1,h7,g8⟩:=zgi d7;have d6:Hid _:=g8;have q0:w.heap.size<w1.heap.size:=by omega
 have q1:w.heap.size+1<w1.heap.size:=by omega
 have g5:Hid ((w1.alloc (.cells #[.int .i64 (k:Int)] 3)).ownsRow (w.heap.size+2) 3 1 (.slice (some ⟨w1.heap.size,0,none⟩) 1 1) [(k:Int)].length ([(k:Int)].map (Value.int .i64))):=by
  have h:=World.ownsRow_lit (base:=w.heap.size+2) (e:=3) (size:=1) w1 #[.int .i64 (k:Int)] 1 (by omega) (by unfold maxLen;omega) (by simp);exact h
 clear d7 g8 DF
 go_wp2_with fail
 go_loopg [7,8] J.length (fun g s7 s8 wr=>∃ (st out:List Int),J.length-out.length<=g/\wr.cell? ⟨w.heap.size,0,none⟩=some (.slice a n c)/\w.heap.size+2<=wr.heap.size/\Hid (Below w.heap.size w wr)/\Hid (wr.ownsRow (w.heap.size+2) 3 1 s7 st.length (st.map (Value.int .i64)))/\Hid (wr.ownsRow (w.heap.size+2) 3 1 s8 out.length (out.map (Value.int .i64)))/\Hid (∀ k,s8.ownBlock=some k->s7.ownBlock≠some k)/\Hid (J=out++zjx S st)/\Hid (∀ x ∈ st,∃ q:Nat,x=q/\q<n))
 case atStart =>
  refine⟨[(k:Int)],[],by simp,?_,(by show _<=(w1.alloc _).heap.size;rw[yk];omega),(d6.out.alloc d6.out.size _:Below _ _ _),g5,World.ownsRow_nil _ _ _ _,(fun k h=>by cases h),(by rw[S0.out];rfl:J=[] ++ zjx S [(k:Int)]),(fun x hx=>⟨k,by simpa using hx,O⟩)⟩;exact zac l0 (zab _ _)
 case round =>
  clear g5 l0 l1 q0 q1 S0 d6 h7 O;obtain⟨st,out,hg,cs,h7,HB,b7,T,AP,EQ,PL⟩:=hrel;have j7:=ye _ _ cs;rcases List.eq_nil_or_concat st with hst |⟨A,x,hst⟩
  ·subst hst;obtain⟨pa,pc,e7,_⟩:=zat b7.out;obtain⟨oa,oc,e8,_⟩:=zat T.out;have e:=EQ.out;rw[SN.out,List.append_nil] at e;subst e7;subst e;have OW:Hid (wr.ownsRow w.heap.size 3 1 u8 J.length (J.map (Value.int .i64))):=zcl T.out (by omega);subst e8;clear EQ PL b7 T AP;dsimp only[List.length_nil]
   go_wp2_with fail
   refine yq (v:=.tuple #[.slice oa J.length oc,.int .i64 0]) (by simp[results,Tryz.results86,go_sem]) rfl ⟨_,rfl,HB.out,OW.out⟩
  ·rw[List.concat_eq_append] at hst;obtain⟨p,rfl,a8⟩:=PL.out x (by rw[hst];simp)
   have a4:st.length<=24:=by
    have h1:=SL.out st;have h2:=EQ.out;have h3:=RL.out;rw[h2,List.length_append] at h3;omega
   have j5:out.length<J.length:=by
    have h2:=EQ.out;rw[hst,PU.out p A a8] at h2;rw[h2];simp
   have f0:Hid (J=(out++[(p:Int)])++zjx S (A++(nd S p).ks.reverse)):=by
    have h2:=EQ.out;rw[hst,PU.out p A a8] at h2;show J=_;rw[h2,List.append_assoc];rfl
   obtain⟨m,hm⟩:∃ m,A.length=m:=⟨_,rfl⟩;have k4:m<=24:=by rw[hst] at a4;simp at a4;omega
   have ho:wr.ownsRow (w.heap.size+2) 3 1 u7 (m+1) ((A++[(p:Int)]).map (Value.int .i64)):=by
    have h:=b7.out;rw[hst,List.length_append,hm] at h;exact h
   obtain⟨g7,c7,e7⟩:∃ g7 c7,u7=Value.slice (some ⟨g7,0,none⟩) (m+1) c7:=by
    rcases ho.2 with ⟨_,h⟩ |⟨g', g6,k6,h,_⟩
    ·omega
    ·exact⟨g', g6,h⟩
   subst e7;obtain⟨k1,j6,k7⟩:=zrP hm ho;have OC:Hid (wr.ownsRow (w.heap.size+2) 3 1 (.slice (some ⟨g7,0,none⟩) m c7) A.length (A.map (Value.int .i64))):=(by rw[hm];exact zrN hm ho:wr.ownsRow (w.heap.size+2) 3 1 (.slice (some ⟨g7,0,none⟩) m c7) A.length (A.map (Value.int .i64)));have j8:=(ho.lt g7 rfl).2;have i6:=zrp g7 m c7 j6;have j2:Hid (∀ x ∈ A,∃ q:Nat,x=q/\q<n):=fun x hx=>PL.out x (by rw[hst];simp[hx]);obtain⟨oa,oc,e8,_⟩:=zat T.out;subst e8;obtain⟨lo,e0⟩:∃ lo,out.length=lo:=⟨_,rfl⟩;have f8:Hid (out.length=lo):=e0;have k0:lo<=24:=by have:=RL.out;omega
   rw[e0] at T AP hg j5 |-;have e9:Hid (∀ k,(Value.slice oa lo oc).ownBlock=some k->(Value.slice (some ⟨g7,0,none⟩) m c7).ownBlock≠some k):=fun k O=>AP.out k O;have g4:Hid (∀ k,(Value.slice oa lo oc).ownBlock=some k->w.heap.size+2<=k):=fun k O=>(T.out.lt k O).1;have HM:Hid (A.length=m):=hm;clear hst ho b7 PL EQ AP a4 hm e0;have i1:((m+1:Nat):Int)-1=(m:Int):=by omega
   have i2:(m:Int)+1-1=(m:Int):=by omega
   have k9:(m:Int)<(m:Int)+1:=by omega
   go_wp2_with (at_builtin;refine wpList_append_own_at _ rfl _ _ 29 rfl (w.heap.size+2) 3 i0 (.int .i64 0) 1 8 Tryz.underlying29 g9 h9 i4 i5 rfl (by decide) _ _ _ rfl (T.out.alloc _) ⟨wr.heap.size,0,none⟩ 1 1 [.int .i64 (p:Int)] rfl rfl ?c1 ?c2 ?c3 ?c4 ?c5 ?_)
   case c2=>rfl
   case c3=>unfold maxLen;omega
   case c4=>omega
   case c5=>omega
   intro v8 w2 b6 D _ b4;obtain⟨h5,a9⟩:=zhC (v2:=v8) OC.out e9.out D (by simpa using b4);have b8:Below (w.heap.size+2) wr w2:=((yj _ wr).alloc (by omega) _).grown D (by simp;omega) (fun k O=>g4.out k O);have Z:Hid (Below w.heap.size w w2):=HB.out.trans (b8.mono (by omega));have U:=(b8.cell (p:=⟨w.heap.size,0,none⟩) (by show w.heap.size < _;omega)).trans cs;have c8:=ye _ _ U;have a5:w.heap.size+2<=w2.heap.size:=by have:=b8.size;omega
   have M:Hid (w2.ownsRow (w.heap.size+2) 3 1 v8 (out++[(p:Int)]).length ((out++[(p:Int)]).map (Value.int .i64))):=by
    have h2:=b6;rw[show (out++[(p:Int)]).length=lo+1 by simp[f8.out],List.map_append];exact h2
   have I:Hid (w2.ownsRow (w.heap.size+2) 3 1 (.slice (some ⟨g7,0,none⟩) m c7) A.length (A.map (Value.int .i64))):=h5;have a6:Hid (∀ k,v8.ownBlock=some k->(Value.slice (some ⟨g7,0,none⟩) m c7).ownBlock≠some k):=a9;obtain⟨nb,no,ea,_,_,_,_,_,⟨ka,kc,k5,a7⟩,_,_⟩:=(HS.out.below Z.out) p (by rw[HN.out];exact a8);subst ea;have l2:(p:Int)<(n:Int):=by omega
   have f7:Hid (zaj w2 ka (nd S p).ks):=a7;have h4:=KS.out p a8;have g2:Hid _:=KP.out p a8;obtain⟨ks,d9⟩:∃ ks,(nd S p).ks=ks:=⟨_,rfl⟩;rw[d9] at k5 f7 h4 g2 f0;have j0:Hid ((nd S p).ks=ks):=d9;obtain⟨L,hL⟩:∃ L,ks.length=L:=⟨_,rfl⟩;have HL:Hid (ks.length=L):=hL;rw[hL] at k5 h4;clear b6 D b4 h5 a9 b8 cs j7 OC e9 g4 T k1 i6 a7 d9 hL HB;have c9:(out++[(p:Int)]).length=lo+1:=by simp[f8.out]
   have f9:Hid _:=c9;clear c9
   go_wp2_with fail
   obtain⟨V,hV⟩:∃ V,V=wr:=⟨_,rfl⟩
   go_loopg [7,10] (L+1) (fun g s7 s10 wr=>∃ (j:Nat) (F:List Int),j<=L/\j<=g/\s10=.int .i64 ((j:Int)-1)/\wr.cell? ⟨w.heap.size,0,none⟩=some (.slice (some ⟨nb,no,none⟩) n c)/\w.heap.size+2<=wr.heap.size/\Hid (Below w.heap.size w wr)/\Hid (F=A++(ks.drop j).reverse)/\Hid (wr.ownsRow (w.heap.size+2) 3 1 s7 F.length (F.map (Value.int .i64)))/\Hid (wr.ownsRow (w.heap.size+2) 3 1 v8 (out++[(p:Int)]).length ((out++[(p:Int)]).map (Value.int .i64)))/\Hid (∀ k,v8.ownBlock=some k->s7.ownBlock≠some k))
   case atStart=>exact⟨L,A,yi _,by omega,rfl,U,a5,Z,(by rw[<- HL.out,List.drop_length];simp:A=A++(ks.drop L).reverse),I,M,a6⟩
   case round =>
    clear U c8 a5 Z I M a6 j8 k5 f7;obtain⟨j,F,hj,k8,rfl,U,a5,Z,ES,I,M,a6⟩:=hrel;have c8:=ye _ _ U
    cases j with
    | zero =>
     have i7:Hid (J=(out++[(p:Int)])++zjx S F):=by
      show J=_;rw[f0.out,ES.out,List.drop_zero]
     have j3:Hid (∀ x ∈ F,∃ q:Nat,x=q/\q<n):=fun x hx=>by
      rw[ES.out,List.drop_zero] at hx;rcases List.mem_append.1 hx with h|h
      ·exact j2.out x h
      ·exact g2.out x (List.mem_reverse.1 h)
     have i3:((0:Nat):Int)-1 = -1:=rfl;rw[i3]
     go_wp2_with fail
     go_roundg (J.length-(lo+1))
     case measure=>omega
     case rel=>exact⟨F,out++[(p:Int)],by rw[f9.out];omega,U,a5,Z,I,M,a6,i7,j3⟩
    | succ jj =>
     have i3:((jj+1:Nat):Int)-1=(jj:Int):=by omega
     rw[i3];obtain⟨l5,l6,ea,_,_,_,_,_,⟨l3,l4,k5,a7⟩,_,_⟩:=(HS.out.below Z.out) p (by rw[HN.out];exact a8);cases ea;rw[j0.out] at k5 a7;rw[HL.out] at k5;obtain⟨kb,ko,ek,j9⟩:=a7 jj (by rw[HL.out];omega);subst ek;obtain⟨y,hy⟩:∃ y,ks.getD jj 0=y:=⟨_,rfl⟩;rw[hy] at j9;have k2:(jj:Int)<(L:Int):=by omega
     have i8:Hid (F++[y]=A++(ks.drop jj).reverse):=by
      show F++[y]=_
      have hd:ks.drop jj=y :: ks.drop (jj+1):=by
       rw[zfg (d:=0) (by rw[HL.out];omega),hy]
      rw[hd,ES.out,List.reverse_cons,List.append_assoc]
     obtain⟨pa,pc,e7,_⟩:=zat I.out;obtain⟨ls,c6⟩:∃ ls,F.length=ls:=⟨_,rfl⟩
     have k3:ls<=2000:=by
      rw[<- c6,ES.out,List.length_append,List.length_reverse,List.length_drop,HL.out,HM.out];omega
     have j1:Hid (F.length=ls):=c6;rw[c6] at e7 I;subst e7;have g3:Hid (∀ k,(Value.slice pa ls pc).ownBlock=some k->w.heap.size+2<=k):=fun k O=>(I.out.lt k O).1;have e6:Hid (∀ k,(Value.slice pa ls pc).ownBlock=some k->v8.ownBlock≠some k):=fun k O d8=>a6.out k d8 O;clear a7 hy c6 a6 ES
     go_wp2_with (at_builtin;refine wpList_append_own_at _ rfl _ _ 29 rfl (w.heap.size+2) 3 i0 (.int .i64 0) 1 8 Tryz.underlying29 g9 h9 i4 i5 rfl (by decide) _ _ _ rfl (I.out.alloc _) ⟨wr.heap.size,0,none⟩ 1 1 [.int .i64 y] rfl rfl ?d1 ?d2 ?d3 ?d4 ?d5 ?_)
     case d2=>rfl
     case d3=>unfold maxLen;omega
     case d4=>omega
     case d5=>omega
     intro v7 w3 b5 D _ b4;obtain⟨h6,a9⟩:=zhC (v2:=v7) M.out e6.out D (by simpa using b4);have b9:Below (w.heap.size+2) wr w3:=((yj _ wr).alloc (by omega) _).grown D (by simp;omega) (fun k O=>g3.out k O);have i9:Hid (Below w.heap.size w w3):=Z.out.trans (b9.mono (by omega));have j4:=(b9.cell (p:=⟨w.heap.size,0,none⟩) (by show w.heap.size < _;omega)).trans U;have h8:w.heap.size+2<=w3.heap.size:=by have:=b9.size;omega
     have g0:Hid (w3.ownsRow (w.heap.size+2) 3 1 v7 (F++[y]).length ((F++[y]).map (Value.int .i64))):=by
      have h2:=b5;rw[show (F++[y]).length=ls+1 by simp[j1.out],List.map_append];exact h2
     have g1:Hid (w3.ownsRow (w.heap.size+2) 3 1 v8 (out++[(p:Int)]).length ((out++[(p:Int)]).map (Value.int .i64))):=h6;have f6:Hid (∀ k,v8.ownBlock=some k->v7.ownBlock≠some k):=fun k O d8=>a9 k d8 O;clear b5 D b4 h6 a9 b9 U I M g3 e6
     go_wp2_with fail
     go_roundg jj
     case measure=>omega
     case rel=>exact⟨jj,F++[y],by omega,by omega,by go_num,j4,h8,i9,i8,g0,g1,f6⟩
end Go.Proofs.YtgjfmepbphfjoaaGreat
