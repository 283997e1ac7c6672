/-
  x
-/
import Derived.Test.YtcbcpomacdngmaaGreatQ16
namespace Go.Proofs.YtcbcpomacdngmaaGreat
set_option maxRecDepth 100000
set_option maxHeartbeats 4000000
set_option linter.unusedVariables false
open Go.RowKit
theorem zzW:(Tryz.prog.info? 48).map (fun i=>(i.zero,i.size,i.bytes))=some (some (.slice none 0 0),1,24):=by kernel_rfl
theorem zwy(n:Nat)(hn:n<=24)(w:World):(Instr.makeSlice 242 (.int .i64 (n:Int)) (.int .i64 (n:Int))).run Tryz.prog w=.ok (.slice (some ⟨w.heap.size,0,none⟩) n n) (w.alloc (.cells (madeCells #[.slice none 0 0] n) 48)) :=
 run_make_row' (P:=Tryz.prog) 242 48 (.slice none 0 0) 24 Tryz.underlying242 zzW rfl .i64 .i64 n (by omega) (by omega) w
def zdE(w:World)(D n:Nat)(g:Nat->List Int):Prop :=
 (∀ p,p<n->∃ ga gc,w.cell? ⟨D,p,none⟩=some (.slice ga (g p).length gc)/\zaj w ga (g p)/\∀ b o s,ga=some ⟨b,o,s⟩->D<b)/\∀ p,w.frozen? ⟨D,p,none⟩=false
theorem zdE.below{w w' : World}{D n:Nat}{g:Nat->List Int}(h:zdE w D n g)(hg:D<w.heap.size)(E:Below w.heap.size w w'):zdE w' D n g :=
 ⟨fun p J=>by
  obtain⟨ga,gc,h1,F,I⟩:=h.1 p J;exact⟨ga,gc,(E.cell (by exact hg)).trans h1,F.below E,I⟩,fun p=>(E.frozen (by exact hg)).trans (h.2 p)⟩
theorem zkR{w:World}{ga:Option Addr}{l:List Int}(h:zaj w ga l){D o:Nat}{v:Value}(F:∀ b o s,ga=some ⟨b,o,s⟩->D<b):zaj (w.setCell ⟨D,o,none⟩ v) ga l:=fun i hi=>by
 obtain⟨b,E,e,hc⟩:=h i hi;have:=F b E none e;exact⟨b,E,e,(yB (ys _ _ _ _ (by show b≠D;omega))).trans hc⟩
theorem zdE.set{w:World}{F n:Nat}{g:Nat->List Int}(h:zdE w F n g){pl:Nat}{ga:Option Addr}{gc:Nat}{l:List Int}(U:pl<n)(hi:zaj w ga l)(M:∀ b o s,ga=some ⟨b,o,s⟩->F<b) :
  zdE (w.setCell ⟨F,pl,none⟩ (.slice ga l.length gc)) F n (fun p=>if p=pl then l else g p):=by
 refine⟨fun p I=>?_,fun p=>?_⟩
 ·by_cases e:p=pl
  ·subst e;obtain⟨D,E,h1,_⟩:=h.1 p U;simp only[if_true];exact⟨ga,gc,World.cell?_setCell_same _ _ _ h1,zkR hi M,M⟩
  ·simp only[ya e];obtain⟨D,E,h1,T,J⟩:=h.1 p I;exact⟨D,E,(World.cell?_setCell_other _ _ _ _ (by intro O;cases O;exact e rfl)).trans h1,zkR T J,J⟩
 ·rw[World.frozen?_setCell];exact h.2 p
theorem zdE.congr{w:World}{E n:Nat}{g D:Nat->List Int}(h:zdE w E n g)(e:∀ p,p<n->g p=D p):zdE w E n D :=
 ⟨fun p F=>by rw[<- e p F];exact h.1 p F,h.2⟩
theorem ziy.far{B:Nat}{L:List Slt}{K:Nat->Value}{v:Value}{w:World}(h:ziy B L K v w):∃ a c,v=.slice a L.length c/\∀ i,i<L.length->∃ b,a=some ⟨b,0,none⟩/\B<=b/\w.cell? ⟨b,i*3,none⟩=some (.int .i64 (slt L i).pl)/\w.cell? ⟨b,i*3+1,none⟩=some (.int .i64 (slt L i).num)/\∃ ga gc,w.cell? ⟨b,i*3+2,none⟩=some (.slice ga (slt L i).gv.length gc)/\zaj w ga (slt L i).gv/\∀ D o s,ga=some ⟨D,o,s⟩->B<=D:=by
 obtain⟨J,I⟩:=h;have E:=J;obtain⟨hl,h⟩:=J;rcases h with ⟨rfl,h0⟩ |⟨g,cap,M,rfl,T,hg,h1,Z,h3,h4⟩
 ·exact⟨none,0,by rw[h0],fun i hi=>by omega⟩
 ·refine⟨some ⟨g,0,none⟩,cap,rfl,fun i hi=>⟨g,rfl,T,?_⟩⟩
  have hc:∀ j,j<3->w.cell? ⟨g,i*3+j,none⟩=(zgG (slt L i) (K i))[j]?:=fun j U=>by
   rw[<- zjR L K U hi];exact E.cellAt (i*3+j) (by omega)
  obtain⟨sa,sc,F,O⟩:=zeE (I i hi);refine⟨hc 0 (by omega),hc 1 (by omega),sa,sc,?_,O,fun D o s e=>?_⟩
  ·rw[hc 2 (by omega),F];rfl
  ·have:=I i hi;rw[F,e] at this;exact(this.lt D rfl).1
theorem zpk(a:Option Addr)(c:Nat)(S:List Nd)(H:Nat)(w:World)(wf:WF S)(M:H<S.length)(E:zah w a S) :
  Calls Tryz.prog 214 #[.agg #[.slice a S.length c],.int .i64 (H:Int)] w fun e w' => ∃ v K,e=.returned v/\Below w.heap.size w w' /\ ziy w.heap.size (zbN S H) K v w' := by
 by_cases D:zbW S H = -1
 ·refine(zrT a c S H w (by have:=wf.small;omega) E D).mono fun e w' ⟨T,O⟩=>?_;have F:zbN S H=[]:=by unfold zbN;rw[yb D]
  refine⟨_,fun _=>.slice none 0 0,T,O,?_⟩;rw[F];exact⟨World.ownsRow_nil _ _ _ _,fun i hi=>by cases hi⟩
 ·obtain⟨r,h1,I,J,_⟩:=zcj S H D;exact zrU a c S H r w wf wf.big M h1 I J E
theorem zrS{S:List Nd}(wf:WF S)(H:Nat):(zbN S H).length<=24:=by
 unfold zbN;split
 ·simp
 ·rename_i E;obtain⟨r,h1,D,_⟩:=zcj S H E;rw[D,yi];have:=znA S H (zaW S S.length r);have:=zfT wf h1;have:=wf.small;omega
theorem zvO(S:List Nd)(h:Nat):zvN S h (zbN S h)=zht S (h+1):=by funext p;rfl
theorem zyN(w:World)(D o:Nat)(v:Value):Off (fun k=>k=D) w (w.setCell ⟨D,o,none⟩ v):=⟨rfl,rfl,rfl,by simp[World.setCell],fun _ _ E=>ys _ _ _ _ E⟩
theorem zyu(a:Option Addr)(c:Nat)(S:List Nd)(w:World)(wf:WF S)(hS:zah w a S) :
  Calls Tryz.prog 202 #[.agg #[.slice a S.length c]] w fun e w' => e=.returned (.slice (some ⟨w.heap.size+1,0,none⟩) S.length S.length)/\Below w.heap.size w w' /\ w.heap.size+1<w'.heap.size/\zdE w' (w.heap.size+1) S.length (zht S S.length):=by
 have hN:=wf.small;have c7:=zwy S.length hN;have DS:Hid (∀ (h:Nat),h<S.length->∀ W,zah W a S->Calls _ _ _ _ _):=fun h hh W hW=>zpk a c S h W wf hh hW;have HS:Hid (zah w a S):=hS
 have PL:Hid (∀ (h i:Nat),i<(zbN S h).length->∃ k:Nat,(slt (zbN S h) i).pl=k/\k<S.length):=fun h i hi=>by
  obtain⟨r,k,j,_,_,_,e,hk,_⟩:=zdl wf (H:=h) (s:=slt (zbN S h) i) (by rw[zeR hi];exact List.getElem_mem hi);exact⟨k,e,hk⟩
 have FW:Hid (∀ h,(zbN S h).length<=24):=fun h=>zrS wf h;have ND:Hid (∀ h,((zbN S h).map Slt.pl).Nodup):=fun h=>zjx wf;clear hS wf;obtain⟨n,hn⟩:∃ n,S.length=n:=⟨_,rfl⟩;have HN:Hid (S.length=n):=hn;rw[hn] at hN c7 DS PL |-;clear hn
 have G0:Hid (zdE ((w.alloc (.cells #[.slice a n c] 43)).alloc (.cells (madeCells #[.slice none 0 0] n) 48)) (w.heap.size+1) n (zht S 0)):=by
  refine⟨fun p hp=>⟨none,0,?_,(fun i hi=>absurd hi (yw _)),(fun b o s e=>by cases e)⟩,fun p=>?_⟩
  ·have:=zac (w.alloc (.cells #[.slice a n c] 43)) (madeCells #[.slice none 0 0] n) 48 p (v:=.slice none 0 0) (by simp[madeCells,hp,Nat.mod_one]);show World.cell? _ _=some (.slice none ([]:List Int).length 0);simpa using this
  ·go_simp
 go_enter Tryz.func202,Tryz.ntmps202
 go_wp2_with fail
 go_loopg [14] n (fun g s14 wr=>∃ h:Nat,h<=n/\n-h<=g/\s14=.int .i64 h/\Hid (Below w.heap.size w wr)/\wr.cell? ⟨w.heap.size,0,none⟩=some (.slice a n c)/\w.heap.size+1<wr.heap.size/\Hid (zdE wr (w.heap.size+1) n (zht S h)))
 case atStart=>exact⟨0,by omega,by omega,rfl,zam _ _ _,by go_simp,by simp,G0⟩
 case round =>
  obtain⟨h,hh,hg,rfl,HB,cs,b0,HG⟩:=hrel;clear G0;by_cases c6:h<n
  ·have c8:(h:Int)<(n:Int):=by omega
   go_wp2_with fail
   refine ye (DS.out h c6 _ (HS.out.below HB.out)) ?_;rintro e w3 ⟨v,K,rfl,hb,hO⟩;obtain⟨qa,qc,hv,O⟩:=hO.far;subst hv;have M:Hid _:=O;have E:=zab cs hb;have e2:=hb.size;have b4:Hid (Below w.heap.size w w3):=HB.out.trans (hb.mono HB.out.size);have b6:Hid (zdE w3 (w.heap.size+1) n (zht S h)):=HG.out.below b0 hb;have Z:Hid _:=PL.out h;have fw:=FW.out h;have b8:Hid _:=ND.out h;have GA:Hid (zvN S h (zbN S h)=zht S (h+1)):=zvO S h;clear hb hO O cs HG;generalize zbN S h=L at *;obtain⟨m,hm⟩:∃ z,L.length=z:=⟨_,rfl⟩;have HM:Hid (L.length=m):=hm;rw[hm] at M Z fw |-;clear hm
   go_wp2_with fail
   go_loopg [21] m (fun g s21 w2=>∃ i:Nat,i<=m/\m-i<=g/\s21=.int .i64 i/\Hid (Off (fun k=>k=w.heap.size+1) w3 w2)/\w2.cell? ⟨w.heap.size,0,none⟩=some (.slice a n c)/\w3.heap.size<=w2.heap.size/\Hid (zdE w2 (w.heap.size+1) n (zvN S h (L.take i))))
   case atStart=>exact⟨0,by omega,by omega,rfl,Off.refl _ _,E,yj _,b6⟩
   case round =>
    obtain⟨i,hi,e0,rfl,U,a5,d5,I⟩:=hrel;clear E;by_cases F:i<m
    ·have c9:(i:Int)<(m:Int):=by omega
     obtain⟨b,ea,d9,f0,f1,ga,gc,f2,a8,D⟩:=M.out i F;obtain⟨pl,a6,a9⟩:=Z.out i F;subst ea;rw[a6] at f0;have x0:=(U.out.cell (p:=⟨b,i*3,none⟩) (by exact yd _ _ f0) (by show ¬ b=_;omega)).trans f0;have x1:=(U.out.cell (p:=⟨b,i*3+1,none⟩) (by exact yd _ _ f1) (by show ¬ b=_;omega)).trans f1;have x2:=(U.out.cell (p:=⟨b,i*3+2,none⟩) (by exact yd _ _ f2) (by show ¬ b=_;omega)).trans f2;have d4:(pl:Int)<(n:Int):=by omega
     have b7:Hid (zaj wr ga (slt L i).gv):=fun j hj=>by
      obtain⟨b', o', e,hc⟩:=a8 j hj;have:=D b' o' none e;exact⟨b', o', e,(U.out.cell (by exact yd _ _ hc) (by show ¬ b' = _;omega)).trans hc⟩
     have b5:Hid (∀ b o s,ga=some ⟨b,o,s⟩->w.heap.size+1<b):=fun b o s e=>by have:=D b o s e;omega
     have EQ:Hid (∀ p,p<n->(if p=pl then (slt L i).gv else zvN S h (L.take i) p)=zvN S h (L.take (i+1)) p):=fun p hp=>by
      have a7:i<L.length:=by rw[HM.out];exact F
      rw[zth b8.out a7,<- zeR a7,a6];by_cases e:p=pl
      ·subst e;simp
      ·rw[ya e,ya (by omega)]
     obtain⟨d8,d6,b9,_⟩:=I.out.1 pl a9;have d7:=I.out.2 pl
     have b2:Hid (∀ o1:Obj,zdE ((wr.setCell ⟨w.heap.size+1,pl,none⟩ (.slice ga (slt L i).gv.length gc)).alloc o1) (w.heap.size+1) n (zvN S h (L.take (i+1)))):=fun o1 =>
      ((I.out.set (gc:=gc) a9 b7.out b5.out).congr EQ.out).below (by simp[World.setCell];omega) (zaa _ _)
     have E:∀ v,(wr.setCell ⟨w.heap.size+1,pl,none⟩ v).cell? ⟨w.heap.size,0,none⟩=some (.slice a n c):=fun v=>(yB (ys _ _ _ _ (by show w.heap.size≠w.heap.size+1;omega))).trans a5;have e1:w.heap.size+1<wr.heap.size:=by omega
     have b1:Hid _:=E;clear f0 f1 f2 a8 D E;generalize (slt L i).gv.length=gl at *;generalize (slt L i).num=nu at *
     go_wp2_with fail
     go_roundg (m-(i+1))
     case measure=>omega
     case rel=>exact⟨i+1,by omega,by omega,by go_num,(U.out.trans (zyN wr _ pl _)).trans (Off.of_below (zaa _ _)),zab (b1.out _) (zaa _ _),by simp[World.setCell];omega,b2.out _⟩
    ·have T:i=m:=by omega
     subst T
     have J:Hid (zdE wr (w.heap.size+1) n (zht S (h+1))):=by
      have h1:=I.out;rw[List.take_of_length_le (by rw[HM.out];omega),GA.out] at h1;exact h1
     have b3:Hid (Below w.heap.size w wr):=b4.out.trans (U.out.below (by omega) (fun k hk=>by have:k=w.heap.size+1:=hk;omega))
     go_wp2_with fail
     go_roundg (n-(h+1))
     case measure=>omega
     case rel=>exact⟨h+1,by omega,by omega,by go_num,b3,a5,by omega,J⟩
  ·have T:h=n:=by omega
   subst T;have J:=HG;rw[<- HN.out] at J;clear HG
   go_wp2_with fail
   go_ret;exact⟨rfl,HB.out,b0,by rw[<- HN.out];exact J.out⟩
theorem zrP(a:Option Addr)(c:Nat)(S:List Nd)(I U p r:Nat)(ka:Option Addr)(kl kc:Nat)(w:World)(hN:S.length<=24)(hr:r<S.length)(M:zbW S p=r)(O:zah w a S)(J:w.cell? ⟨I,0,none⟩=some (.slice a S.length c))(E:∃ b o,a=some ⟨b,o,none⟩/\w.cell? ⟨b,o+r*8+5,none⟩=some (.slice ka kl kc)) :
  Calls Tryz.prog 203 #[.int .i64 (p:Int),.pointer (some ⟨I,0,none⟩),.pointer (some ⟨U,0,none⟩)] w fun e w' => e=.returned (.slice ka kl kc)/\Below w.heap.size w w' := by
 have d:=zdk a c S (p:Int) w (by omega) O;rw[M] at d;have D:Hid _:=d;obtain⟨b,o,rfl,E⟩:=E;have a6:(r:Int)<(S.length:Int):=by omega
 have a7:((r:Int) == -1)=false:=by simp
 have a8:decide ((r:Int) = -1)=false:=by simp
 clear d O M;generalize S.length=n at *
 go_enter Tryz.func203,Tryz.ntmps203
 go_wp2_with fail
 refine ye D.out ?_;rintro e w1 ⟨rfl,F⟩;have Z:=zab J F;have a5:=zab E F;have T:Hid _:=F;clear F J E
 go_wp2_with fail
 go_ret;exact⟨rfl,T.out⟩
theorem zpj(a:Option Addr)(c:Nat)(S:List Nd)(I F U p:Nat)(ka:Option Addr)(kl kc:Nat)(w:World)(hN:S.length<=24)(hp:p<S.length)(T:zbW S p = -1)(Z:zah w a S)(J:w.cell? ⟨I,0,none⟩=some (.slice a S.length c))(M:w.cell? ⟨F,0,none⟩=some (.slice (some ⟨U,0,none⟩) S.length S.length))(O:w.cell? ⟨U,p,none⟩=some (.slice ka kl kc))(hk:0<kl) :
  Calls Tryz.prog 203 #[.int .i64 (p:Int),.pointer (some ⟨I,0,none⟩),.pointer (some ⟨F,0,none⟩)] w fun e w' => e=.returned (.slice ka kl kc)/\Below w.heap.size w w' := by
 have d:=zdk a c S (p:Int) w (by omega) Z;rw[T] at d;have D:Hid _:=d;have a9:(p:Int)<(S.length:Int):=by omega
 have a8:(0:Int)<(kl:Int):=by omega
 clear d Z T;generalize S.length=n at *
 go_enter Tryz.func203,Tryz.ntmps203
 go_wp2_with fail
 refine ye D.out ?_;rintro e w1 ⟨rfl,E⟩;have a5:=zab J E;have a6:=zab M E;have a7:=zab O E;have HB:Hid _:=E;clear E J O M
 go_wp2_with fail
 go_ret;exact⟨rfl,HB.out⟩
theorem zrO(a:Option Addr)(c:Nat)(S:List Nd)(J I Z p:Nat)(ka ga:Option Addr)(kl kc gc:Nat)(w:World)(hN:S.length<=24)(hp:p<S.length)(U:zbW S p = -1)(hS:zah w a S)(M:w.cell? ⟨J,0,none⟩=some (.slice a S.length c))(O:w.cell? ⟨I,0,none⟩=some (.slice (some ⟨Z,0,none⟩) S.length S.length))(T:w.cell? ⟨Z,p,none⟩=some (.slice ga 0 gc))(F:∃ b o,a=some ⟨b,o,none⟩/\w.cell? ⟨b,o+p*8+5,none⟩=some (.slice ka kl kc)) :
  Calls Tryz.prog 203 #[.int .i64 (p:Int),.pointer (some ⟨J,0,none⟩),.pointer (some ⟨I,0,none⟩)] w fun e w' => e=.returned (.slice ka kl kc)/\Below w.heap.size w w' := by
 have d:=zdk a c S (p:Int) w (by omega) hS;rw[U] at d;have D:Hid _:=d;obtain⟨b,o,rfl,F⟩:=F;have a9:(p:Int)<(S.length:Int):=by omega
 clear d hS U;generalize S.length=n at *
 go_enter Tryz.func203,Tryz.ntmps203
 go_wp2_with fail
 refine ye D.out ?_;rintro e w1 ⟨rfl,E⟩;have a5:=zab M E;have a6:=zab O E;have a7:=zab T E;have a8:=zab F E;have HB:Hid _:=E;clear E M T O F
 go_wp2_with fail
 go_ret;exact⟨rfl,HB.out⟩
def zjg(S:List Nd)(k:Nat):List Int:=zbT (zbX S (zht S S.length)) (zzL S) k
theorem zuN(a:Option Addr)(c:Nat)(S:List Nd)(I F U:Nat)(w:World)(wf:WF S)(J:zah w a S)(Z:w.cell? ⟨I,0,none⟩=some (.slice a S.length c))(cg:w.cell? ⟨F,0,none⟩=some (.slice (some ⟨U,0,none⟩) S.length S.length))(hG:zdE w U S.length (zht S S.length))(p:Nat)(M:p<S.length) :
  ∃ ka kc,(zbX S (zht S S.length) p).length<=9223372036854775807/\(∀ D,Below w.heap.size w D->zaj D ka (zbX S (zht S S.length) p))/\∀ D,Below w.heap.size w D->Calls Tryz.prog 203 (#[.int .i64 (p:Int)] ++ #[.pointer (some ⟨I,0,none⟩),.pointer (some ⟨F,0,none⟩)]) D fun e w2=>e=.returned (.slice ka (zbX S (zht S S.length) p).length kc)/\Below D.heap.size D w2:=by
 have hN:=wf.small;unfold zbX;by_cases T:zbW S p = -1
 ·rw[ya (by simpa using T)];obtain⟨ga,gc,g1,g2,_⟩:=hG.1 p M;by_cases hg:zht S S.length p=[]
  ·rw[ya (by simpa using hg)];rw[hg] at g1;obtain⟨b,o,ea,_,_,_,_,_,⟨ka,kc,c5,E⟩,_⟩:=J p M;exact⟨ka,kc,by have:=wf.kids_small M;omega,fun D h1=>E.below h1,fun D h1=>zrO a c S I F U p ka ga _ kc gc D hN M T (J.below h1) (zab Z h1) (zab cg h1) (zab g1 h1) ⟨b,o,ea,zab c5 h1⟩⟩
  ·rw[yb (by simpa using hg)];have O:0<(zht S S.length p).length:=List.length_pos_iff.2 hg;exact⟨ga,gc,by have:=(zti wf (yj S.length) (p:=p)).1;omega,fun D h1=>g2.below h1,fun D h1=>zpj a c S I F U p ga _ gc D hN M T (J.below h1) (zab Z h1) (zab cg h1) (zab g1 h1) O⟩
 ·rw[yb (by simpa using T)];obtain⟨r,h1,h2,_⟩:=zcj S p T;rw[h2,yi];obtain⟨b,o,ea,_,_,_,_,_,⟨ka,kc,c5,E⟩,_⟩:=J r h1;exact⟨ka,kc,by have:=wf.kids_small h1;omega,fun D h1=>E.below h1,fun D hb=>zrP a c S I F p r ka _ kc D hN h1 h2 (J.below hb) (zab Z hb) ⟨b,o,ea,zab c5 hb⟩⟩
theorem zvK(a:Option Addr)(c:Nat)(S:List Nd)(p u E:Int)(w:World)(Z:S.length<=9223372036854775807)(J:Big S)(O:zah w a S)(M:zaH S p u=E)(F:E≠0) :
  Calls Tryz.prog 190 #[.agg #[.slice a S.length c],.agg #[.int .i64 p,.int .i64 u]] w fun e w' => e=.returned (.tuple #[.slice none 0 0,.int .i64 E])/\Below w.heap.size w w' := by
 have D:Hid (∀ W,zah W a S->Calls _ _ _ _ _):=fun W hW=>ziK a c S p u E W Z J hW M F;have U:Hid (zah w a S):=O;have e1:(E == 0)=false:=beq_eq_false_iff_ne.2 F;have e2:decide (E=0)=false:=decide_eq_false F;clear O M J;generalize S.length=n at *
 go_enter Tryz.func190,Tryz.ntmps190
 go_wp2_with fail
 refine ye (D.out _ (U.out.below (zam _ _ _))) ?_;rintro e w1 ⟨rfl,T⟩;have I:Hid (Below w.heap.size w w1):=(zam w _ _).trans (T.mono (by simp;omega));clear T
 go_wp2_with fail
 exact yv (v:=.tuple #[.slice none 0 0,.int .i64 E]) (by simp[results,Tryz.results190,go_sem]) rfl ⟨rfl,I.out.trans ((zaa _ _).mono I.out.size)⟩
theorem zvI{S:List Nd}(wf:WF S){k:Nat}(D:k<S.length):(zjg S k).length<=S.length:=zum wf (zxw wf) D (zzL S)
theorem zvb(a:Option Addr)(c:Nat)(S:List Nd)(k E D F:Nat)(w:World)(wf:WF S)(I:k<S.length)(Z:zah w a S)(J:w.cell? ⟨E,0,none⟩=some (.slice a S.length c))(M:w.cell? ⟨D,0,none⟩=some (.slice (some ⟨F,0,none⟩) S.length S.length))(U:zdE w F S.length (zht S S.length)) :
  Calls Tryz.prog 204 #[.int .i64 (k:Int),.func (.func 203) #[] #[.pointer (some ⟨E,0,none⟩),.pointer (some ⟨D,0,none⟩)]] w fun e w' => ∃ sa cap,e=.returned (.slice sa (zjg S k).length cap)/\Below w.heap.size w w' /\ zaj w' sa (zjg S k):=by
 have hN:=wf.small;have hl:=zvI wf I;unfold zjg at hl |-;refine(zqm (zbX S (zht S S.length)) S.length 203 #[.pointer (some ⟨E,0,none⟩),.pointer (some ⟨D,0,none⟩)] k (zzL S) w (enters_of Tryz.func203 (by kernel_rfl) rfl) (fun p hp=>zuN a c S E D F w wf Z J M U p hp) I (zlD wf (zxw wf) I) (by omega)).mono fun e w' ⟨sa,cap,h1,O,T,_⟩=>⟨sa,cap,h1,O,T⟩
theorem zyq(a:Option Addr)(c:Nat)(S:List Nd)(k:Nat)(u:Int)(w:World)(wf:WF S)(hS:zah w a S)(hk:k<S.length)(hE:zaH S k u=0) :
  Calls Tryz.prog 190 #[.agg #[.slice a S.length c],.agg #[.int .i64 (k:Int),.int .i64 u]] w fun e w' => ∃ sa cap,e=.returned (.tuple #[.slice sa (zjg S k).length cap,.int .i64 0])/\Below w.heap.size w w' /\ zaj w' sa (zjg S k):=by
 have hN:=wf.small;have D:Hid (∀ W,zah W a S->Calls _ _ _ _ _):=fun W hW=>find_ok a c S k u W (by omega) wf.big hW hk hE (by have:=wf.kids_small hk;omega);have DG:Hid (∀ W,zah W a S->Calls _ _ _ _ _):=fun W hW=>zyu a c S W wf hW;have Z:Hid (∀ bs bg M W,zah W a S->World.cell? W ⟨bs,0,none⟩=some (.slice a S.length c)->World.cell? W ⟨bg,0,none⟩=some (.slice (some ⟨M,0,none⟩) S.length S.length)->zdE W M S.length (zht S S.length)->Calls _ _ _ _ _):=fun bs bg M W h1 h2 h3 h4=>zvb a c S k bs bg M W wf hk h1 h2 h3 h4;have HS:Hid (zah w a S):=hS;clear hS hE wf;generalize zjg S k=F at *;generalize nd S k=x at *;obtain⟨xu,xn,xt,xm,xp,a6,xh,xc⟩:=x;generalize zht S S.length=G at *;generalize S.length=n at *;dsimp only at D;obtain⟨fl,O⟩:∃ z,F.length=z:=⟨_,rfl⟩;rw[O] at Z |-;obtain⟨xl,U⟩:∃ z,a6.length=z:=⟨_,rfl⟩;rw[U] at D;clear O U
 go_enter Tryz.func190,Tryz.ntmps190
 go_wp2_with fail
 refine ye (D.out _ (HS.out.below (zam _ _ _))) ?_;rintro e w1 ⟨g,rfl,E,_⟩;have l0:=zab (zay w #[.slice a n c] 43 0 (.cells #[.int .i64 (k:Int),.int .i64 u] 61) rfl) E;have l1:=zab (zaz w #[.int .i64 (k:Int),.int .i64 u] 61 0 (.cells #[.slice a n c] 43) rfl) E;have q0:=yd _ _ l0;have q1:=yd _ _ l1;have J:Hid (Below w.heap.size w w1):=(zam w _ _).trans (E.mono (by simp;omega));clear E D
 go_wp2_with fail
 refine ye (DG.out _ (HS.out.below (J.out.trans ((zaa _ _).mono J.out.size)))) ?_;rintro e w2 ⟨rfl,E,T,hG⟩;have m0:=zab (zab l0 (zaa _ _)) E;have m1:=zab (zab l1 (zaa _ _)) E;have r0:=yd _ _ m0;have r1:=yd _ _ m1;have I:Hid (Below w.heap.size w w2):=(J.out.trans ((zaa _ _).mono J.out.size)).trans (E.mono (by have:=J.out.size;simp;omega));have HG:Hid (zdE w2 _ n G):=hG;clear E l0 l1 q0 q1 DG hG;simp only[yr] at HG T |-;generalize w1.heap.size+1+1=M at *
 go_wp2_with fail
 refine ye (Z.out _ _ _ _ (HS.out.below (I.out.trans ((zaa _ _).mono I.out.size))) (zab m0 (zaa _ _)) (zac w2 _ _ 0 rfl) (zdE.below HG.out T (zaa _ _))) ?_;rintro e w3 ⟨sa,cap,rfl,E,hI⟩;have a5:Hid (Below w.heap.size w w3):=(I.out.trans ((zaa _ _).mono I.out.size)).trans (E.mono (by have:=I.out.size;simp;omega));have HI:Hid _:=hI;clear E hI Z HG m0 m1
 go_wp2_with fail
 exact yv (v:=.tuple #[.slice sa fl cap,.int .i64 0]) (by simp[results,Tryz.results190,go_sem]) rfl ⟨sa,cap,rfl,a5.out,HI.out⟩
structure Rl where
 s:List Nd
 hs:List (Int × Int)
 i:List Cl
 t:List Int
def zbK:Rl:=⟨[],[],[],[]⟩
structure Ac where
 k:Int
 a:Int
 b:Int
 c:Int
 n:Int
structure Rs where
 e:Int
 r:Rl
 o:Int
theorem zcD{S:List Nd}{p u:Int}(h:zaH S p u=0):WF S/\∃ k:Nat,p=k/\k<S.length/\(nd S k).u=true/\(nd S k).n=u :=
 ⟨(zfE S).1 (zfM h).1,holds_zero (zfM h).2⟩
theorem zuV{S:List Nd}{hs:List (Int × Int)}(h:zba S hs=0):WF S/\∀ x ∈ hs,∃ k:Nat,x.1=k/\k<S.length/\(nd S k).u=true/\(nd S k).n=x.2:=by
 unfold zba at h
 split at h
 ·rename_i E;refine⟨(zfE S).1 E,?_⟩
  induction hs with
  | nil=>intro x D;cases D
  | cons y r F =>
   unfold zfm at h
   split at h
   ·rename_i h0;intro x D;rcases List.mem_cons.1 D with rfl|D
    ·exact holds_zero h0
    ·exact F h x D
   ·exact absurd h (by assumption)
 ·exact absurd h (by assumption)
def zgb(S:List Nd):Nat:=S.findIdx zco
theorem zvF{S:List Nd}{k:Nat}(D:k<S.length)(h1:zco (nd S k)=true)(E:∀ i,i<k->zco (nd S i)=false):zgb S=k:=by
 unfold zgb;rw[List.findIdx_eq D];refine⟨by rw[<- zbi D];exact h1,fun j F=>?_⟩;have:=E j F;rw[zbi (by omega)] at this;exact this
theorem zvE{S:List Nd}(h:S.any zco=true):zgb S<S.length/\zco (nd S (zgb S))=true/\∀ i,i<zgb S->zco (nd S i)=false:=by
 obtain⟨k,E,h1,D⟩:=zqL h;rw[zvF E h1 D];exact⟨E,h1,D⟩
def mkS(S:List Nd)(t:Int):List Nd:=S.set (zgb S) (zbP (nd S (zgb S)) t)
def mkH(S:List Nd):Int × Int:=((zgb S:Int),(nd S (zgb S)).n+1)
theorem zlO{S:List Nd}{t:Int}(h:zfu S t=0):WF S/\(0<=t/\t<=99)/\zgb S<S.length/\zco (nd S (zgb S))=true/\∀ i,i<zgb S->zco (nd S i)=false:=by
 unfold zfu at h;by_cases hc:zbq S=0
 ·rw[yb hc] at h;by_cases D:0<=t/\t<=99
  ·rw[yb D] at h
   cases hq:S.any zco with
   | true=>exact⟨(zfE S).1 hc,D,zvE hq⟩
   | false=>rw[hq,ya (by simp)] at h;omega
  ·rw[ya D] at h;omega
 ·rw[ya hc] at h;exact absurd h hc
instance (S:List Nd) (k:Nat):Decidable (zgi S k):=by unfold zgi;infer_instance
def zte(S:List Nd)(p u:Int):Int:=if zaH S p u=0 then (if zgi S p.toNat then 0 else 6) else zaH S p u
def zAo(S:List Nd)(p u:Int):Int:=if zaH S p u=0 then (if (nd S p.toNat).p = -1 then 6 else 0) else zaH S p u
def zxA(S:List Nd)(p u n:Int):Int:=if zaH S p u=0 then (if -1000000<=n/\n<=1000000 then 0 else 2) else zaH S p u
def zyd(S:List Nd)(p u:Int)(q:List Tst):Int:=if zaH S p u=0 then zfB q else zaH S p u
def zkd(S:List Nd)(p u q v:Int)(hs:List (Int × Int)):Int :=
 if zba S ((p,u) ::(q,v) :: hs)=0 then (if zjf S q.toNat p.toNat=true then (match hs with | []=>0|h :: _=>if (nd S h.1.toNat).p=p then 0 else 6) else 6) else zba S ((p,u) ::(q,v) :: hs)
def zpH(S:List Nd)(p q:Int)(hs:List (Int × Int)):List Nd :=
 match hs with
 | []=>zbj (leaveG S q.toNat) p.toNat q.toNat (nd (leaveG S q.toNat) p.toNat).ks.length
 | h :: _=>if h.1=q then S else zbj (leaveG S q.toNat) p.toNat q.toNat (idx (nd (leaveG S q.toNat) p.toNat).ks h.1).toNat
def zvV(S:List Nd)(p u:Int):Int:=if zaH S p u=0 then (if zfs S p=true then 6 else zfu S 0) else zaH S p u
def zzT(S:List Nd)(p:Int)(c:Bool):List Nd:=S.set (zgb S) (zbQ (nd S (zgb S)) p.toNat c)
def upE(S:List Nd)(p u:Int):Int:=if zaH S p u=0 then (if (nd S p.toNat).p = -1 then 6 else 0) else zaH S p u
def upH(S:List Nd)(p:Int):Int × Int:=((nd S p.toNat).p,(nd S (nd S p.toNat).p.toNat).n)
def zzq(S:List Nd)(p n:Int):List Nd:=S.set p.toNat { nd S p.toNat with m:=n }
def ans(E:Int)(R:Rl)(o:Int):Rs:=if E=0 then ⟨0,R,o⟩ else ⟨E,zbK,0⟩
def bad(E:Int):Rs:=⟨E,zbK,0⟩
theorem zeX{E:Int}{R:Rl}{o:Int}(h:(ans E R o).e=0):E=0/\ans E R o=⟨0,R,o⟩:=by
 by_cases D:E=0
 ·exact⟨D,yb D⟩
 ·unfold ans at h;rw[ya D] at h;exact absurd h D
def isH(k:Int):Prop:=0<=k/\k<=15
instance (k:Int):Decidable (isH k):=by unfold isH;infer_instance
def hd(R:Rl)(k:Int):Int × Int:=R.hs.getD k.toNat (0,0)
def zaF(R:Rl):Int:=if zbq R.s=0 then (if R.hs.length=16 then (if zav R.i=0 then (if 4800<R.t.length then 1 else 0) else zav R.i) else 3) else zbq R.s
def zso(R:Rl)(a n:Int):Rs:=ans (zfu R.s n) ⟨mkS R.s n,R.hs.set a.toNat (mkH R.s),R.i,R.t⟩ 0
def zxR(R:Rl)(h:Int × Int):Rs:=ans (zte R.s h.1 h.2) ⟨R.s.set h.1.toNat (zcU (nd R.s h.1.toNat)),R.hs,R.i,R.t⟩ 0
def znV(R:Rl)(h:Int × Int):Rs:=ans (zAo R.s h.1 h.2) ⟨leaveG R.s h.1.toNat,R.hs,R.i,R.t⟩ 0
def zzw(R:Rl)(h:Int × Int):Rs:=ans (zaH R.s h.1 h.2) R (nd R.s h.1.toNat).m
def zxp(R:Rl)(h:Int × Int)(n:Int):Rs:=ans (zxA R.s h.1 h.2 n) ⟨zzq R.s h.1 n,R.hs,R.i,R.t⟩ 0
def zvl(R:Rl)(h:Int × Int)(n:Int):Rs:=if 0<=n/\n<R.i.length then zxp R h (cl R.i n.toNat).n else bad 4
def zsm(R:Rl)(h:Int × Int)(t m:Int):Rs:=ans (zyd R.s h.1 h.2 [⟨t,m,false⟩]) R (zgY R.s h.1.toNat [⟨t,m,false⟩]).length
def zxQ(R:Rl)(h:Int × Int):Rs:=ans (zaH R.s h.1 h.2) R (zjg R.s h.1.toNat).length
def zdH(R:Rl)(h g:Int × Int)(hs:List (Int × Int)):Rs:=ans (zkd R.s h.1 h.2 g.1 g.2 hs) ⟨zpH R.s h.1 g.1 hs,R.hs,R.i,R.t⟩ 0
def zsn(R:Rl)(b:Int)(h:Int × Int)(c:Bool):Rs:=ans (zvV R.s h.1 h.2) ⟨zzT R.s h.1 c,R.hs.set b.toNat (mkH R.s),R.i,R.t⟩ 0
def aUp(R:Rl)(b:Int)(h:Int × Int):Rs:=ans (upE R.s h.1 h.2) ⟨R.s,R.hs.set b.toNat (upH R.s h.1),R.i,R.t⟩ 0
def doG(R:Rl)(x:Ac):Rs :=
 if isH x.a then
  if x.k=1 then zso R x.a x.n
  else if x.k=2 then zxR R (hd R x.a)
  else if x.k=4 then znV R (hd R x.a)
  else if x.k=6 then zzw R (hd R x.a)
  else if x.k=5 then zxp R (hd R x.a) x.n
  else if x.k=11 then zvl R (hd R x.a) x.n
  else if x.k=14 then zsm R (hd R x.a) x.b x.n
  else if x.k=15 then zxQ R (hd R x.a)
  else if x.k=3\/x.k=7\/x.k=8 then
   if isH x.b then
    if x.k=7 then zsn R x.b (hd R x.a) (decide (x.n=1))
    else if x.k=8 then aUp R x.b (hd R x.a)
    else if x.c<0 then zdH R (hd R x.a) (hd R x.b) []
    else if isH x.c then zdH R (hd R x.a) (hd R x.b) [hd R x.c] else bad 4
   else bad 4
  else bad 3
 else bad 4
def doF(R:Rl)(x:Ac):Rs:=if zaF R=0 then doG R x else bad (zaF R)
theorem WF.mark{S:List Nd}(h:WF S){k:Nat}{n:Int}(E:k<S.length)(F:(nd S k).u=true)(hn:-1000000<=n/\n<=1000000):WF (S.set k { nd S k with m:=n }):=by
 refine h.like (by simp) (fun i hi=>?_) (fun i hi=>?_) (fun i hi D=>?_)
 ·rw[zct S k i _ E];split
  ·rename_i e;subst e;obtain⟨r1,r2,r3⟩:=zbg (h.node i hi);obtain⟨I,J,M⟩:=zeI r2;refine zgB ?_ (zeH I J M) ?_
   ·unfold zcS at r1 |-;simp only[Bool.and_eq_true,decide_eq_true_eq] at r1 |-;exact⟨r1.1,r1.2.1,hn⟩
   ·unfold zdZ at r3 |-;dsimp only;rw[yb F] at r3 |-;exact r3
  ·exact h.node i hi
 ·rw[zct S k i _ E];split
  ·rename_i e;subst e;exact⟨rfl,rfl,rfl⟩
  ·exact⟨rfl,rfl,rfl⟩
 ·rw[zct S k i _ E];split
  ·exact Or.inl F
  ·exact Or.inl D
def ziz(x y:Nd):Prop:=y.u=x.u/\y.n=x.n/\y.t=x.t/\y.m=x.m
def zAJ(x y:Nd):Prop:=x.u=false/\y.u=true/\y.n=x.n+1/\y.m=x.m
def zAK(x y:Nd):Prop:=x.u=true/\y.u=false/\y.n=x.n
def zxn(x y:Nd):Prop:=y.u=x.u/\y.n=x.n/\y.t=x.t
def zzk(S T:List Nd):Prop:=T.length=S.length/\∃ q,∀ i,i<S.length->ziz (nd S i) (nd T i)\/(i=q/\(zAJ (nd S i) (nd T i)\/zAK (nd S i) (nd T i)))
theorem ziz.rfl{x:Nd}:ziz x x:=⟨Eq.refl _,Eq.refl _,Eq.refl _,Eq.refl _⟩
theorem zju{S T:List Nd}(hl:T.length=S.length)(h:∀ i,i<S.length->ziz (nd S i) (nd T i)):zzk S T:=⟨hl,0,fun i hi=>Or.inl (h i hi)⟩
theorem zlR{S:List Nd}{k:Nat}{y:Nd}(D:k<S.length)(h:zAJ (nd S k) y\/zAK (nd S k) y):zzk S (S.set k y):=⟨by simp,k,fun i hi=>by
 rw[zct S k i _ D];split
 ·rename_i e;subst e;exact Or.inr ⟨rfl,h⟩
 ·exact Or.inl ziz.rfl⟩
theorem zhc{S:List Nd}{p u q v:Int}{hs:List (Int × Int)}(h:zkd S p u q v hs=0):WF (zpH S p q hs)/\zzk S (zpH S p q hs):=by
 unfold zkd at h;by_cases h0:zba S ((p,u) ::(q,v) :: hs)=0
 ·rw[yb h0] at h;obtain⟨wf,O⟩:=zuV h0;obtain⟨pa,J,hpa,hpu,I⟩:=O (p,u) (by simp);obtain⟨D,M,hch,hcu,E⟩:=O (q,v) (by simp);dsimp only at J M I E;subst J;subst M;rw[yi,yi] at h;by_cases F:zjf S D pa=true
  ·rw[yb F] at h;have pt:zvh S pa D:=⟨wf,hpa,hch,hpu,hcu,F⟩
   have key:∀ at', WF (zbj (leaveG S D) pa D at')/\zzk S (zbj (leaveG S D) pa D at'):=fun at' => ⟨pt.insert at', zju (by rw[zbk,zbb]) (fun i hi=>by
    obtain⟨a1,a2,a3,a4,T,a6⟩:=zfS S D i;obtain⟨U,Z,b3,b4,b5,b6⟩:=zeC (leaveG S D) pa D at' i;exact⟨U.trans a1,Z.trans a2,b4.trans a4,b5.trans T⟩)⟩
   unfold zpH;rw[yi,yi]
   match hs with
   | []=>exact key _
   | hh :: r =>
    dsimp only;split
    ·exact⟨wf,zju rfl (fun i hi=>ziz.rfl)⟩
    ·exact key _
  ·rw[ya F] at h;omega
 ·rw[ya h0] at h;exact absurd h h0
structure Kept (R:Rl) (x:Ac) (Q:Rl) (o:Int):Prop where
 a:isH x.a
 wf:WF Q.s
 len:Q.s.length=R.s.length
 hlen:Q.hs.length=R.hs.length
 inn:Q.i=R.i
 tld:Q.t=R.t
 told:o≠0->x.k=6\/x.k=14\/x.k=15
 same:x.k=6\/x.k=14\/x.k=15->Q=R
 node:∃ q,∀ i,i<R.s.length->ziz (nd R.s i) (nd Q.s i)\/(i=q/\(zAJ (nd R.s i) (nd Q.s i)\/zAK (nd R.s i) (nd Q.s i)\/zxn (nd R.s i) (nd Q.s i)))
 hand:∃ q,∀ i,i≠q->Q.hs.getD i (0,0)=R.hs.getD i (0,0)
 mark:x.k=5\/x.k=11->∃ k:Nat,(hd R x.a).1=k/\k<R.s.length/\(nd R.s k).u=true/\(nd R.s k).n=(hd R x.a).2/\(x.k=11->0<=x.n/\x.n<R.i.length)/\Q.s=R.s.set k { nd R.s k with m:=if x.k=11 then (cl R.i x.n.toNat).n else x.n }/\Q.hs=R.hs
 mild:x.k≠5->x.k≠11->zzk R.s Q.s
theorem ziM{α:Type}(l:List α)(k i:Nat)(v d:α)(h:i≠k):(l.set k v).getD i d=l.getD i d:=by
 simp only[List.getD_eq_getElem?_getD,List.getElem?_set_ne (Ne.symm h)]
theorem Kept.mildly{R:Rl}{x:Ac}{T:List Nd}(ha:isH x.a)(wf:WF T)(D:zzk R.s T)(I:x.k≠6/\x.k≠14/\x.k≠15)(F:x.k≠5/\x.k≠11)(H:List (Int × Int))(hl:H.length=R.hs.length)(E:∃ q,∀ i,i≠q->H.getD i (0,0)=R.hs.getD i (0,0)):Kept R x ⟨T,H,R.i,R.t⟩ 0 :=
 {a:=ha,wf:=wf,len:=D.1,hlen:=hl,inn:=rfl,tld:=rfl,told:=fun h=>absurd rfl h,same:=fun h=>(by omega),
  node:=by
   obtain⟨_,q,h⟩:=D;exact⟨q,fun i hi=>(h i hi).imp id (fun⟨e,hh⟩=>⟨e,hh.elim Or.inl (fun h=>Or.inr (Or.inl h))⟩)⟩
  hand:=E,mark:=fun h=>(by omega),mild:=fun _ _=>D }
theorem Kept.asked{R:Rl}{x:Ac}{o:Int}(ha:isH x.a)(wf:WF R.s)(D:x.k=6\/x.k=14\/x.k=15):Kept R x R o :=
 {a:=ha,wf:=wf,len:=rfl,hlen:=rfl,inn:=rfl,tld:=rfl,told:=fun _=>D,same:=fun _=>rfl,
  node:=⟨0,fun i hi=>Or.inl ziz.rfl⟩,hand:=⟨0,fun i hi=>rfl⟩,mark:=fun h=>(by omega),mild:=fun _ _=>zju rfl (fun i hi=>ziz.rfl) }
theorem Kept.marked{R:Rl}{x:Ac}{n:Int}(ha:isH x.a)(E:zxA R.s (hd R x.a).1 (hd R x.a).2 n=0)(U:x.k=5\/x.k=11)(hn:n=if x.k=11 then (cl R.i x.n.toNat).n else x.n)(hi:x.k=11->0<=x.n/\x.n<R.i.length):Kept R x ⟨zzq R.s (hd R x.a).1 n,R.hs,R.i,R.t⟩ 0:=by
 unfold zxA at E;by_cases F:zaH R.s (hd R x.a).1 (hd R x.a).2=0
 ·rw[yb F] at E;by_cases J:-1000000<=n/\n<=1000000
  ·obtain⟨wf,k,e,D,M,I⟩:=zcD F;have O:zzq R.s (hd R x.a).1 n=R.s.set k { nd R.s k with m:=n }:=by unfold zzq;rw[e,yi]
   rw[O]
   exact
    {a:=ha,wf:=wf.mark D M J,len:=by simp,hlen:=rfl,inn:=rfl,tld:=rfl,told:=fun h=>absurd rfl h,same:=fun h=>(by omega),
     node:=⟨k,fun i hi=>by
      show ziz _ (nd (R.s.set k _) i)\/(i=k/\(zAJ _ (nd (R.s.set k _) i)\/zAK _ (nd (R.s.set k _) i)\/zxn _ (nd (R.s.set k _) i)));rw[zct R.s k i _ D];split
      ·rename_i e;subst e;exact Or.inr ⟨rfl,Or.inr (Or.inr ⟨rfl,rfl,rfl⟩)⟩
      ·exact Or.inl ziz.rfl⟩
     hand:=⟨0,fun i hi=>rfl⟩,mark:=fun _=>⟨k,e,D,M,I,hi,by rw[<- hn],rfl⟩,mild:=fun h1 T=>by omega }
  ·rw[ya J] at E;omega
 ·rw[ya F] at E;exact absurd E F
theorem zaB{R:Rl}(h:zaF R=0):WF R.s/\R.hs.length=16/\zav R.i=0/\R.t.length<=4800:=by
 unfold zaF at h;by_cases h1:zbq R.s=0
 ·rw[yb h1] at h;by_cases E:R.hs.length=16
  ·rw[yb E] at h;by_cases D:zav R.i=0
   ·rw[yb D] at h;by_cases F:4800<R.t.length
    ·rw[yb F] at h;omega
    ·exact⟨(zfE _).1 h1,E,D,by omega⟩
   ·rw[ya D] at h;exact absurd h D
  ·rw[ya E] at h;omega
 ·rw[ya h1] at h;exact absurd h h1
theorem zen{R:Rl}(h1:WF R.s)(D:R.hs.length=16)(E:zav R.i=0)(F:R.t.length<=4800):zaF R=0:=by
 unfold zaF;rw[yb ((zfE _).2 h1),yb D,yb E,ya (by omega)]
theorem zvA{R:Rl}{x:Ac}(hc:zaF R=0)(h:(doG R x).e=0):Kept R x (doG R x).r (doG R x).o:=by
 obtain⟨wf,a8,_,_⟩:=zaB hc;have same:∃ q,∀ i,i≠q->R.hs.getD i (0,0)=R.hs.getD i (0,0):=⟨0,fun i _=>rfl⟩;have one:∀ (k:Nat) v,∃ q,∀ i,i≠q->(R.hs.set k v).getD i (0,0)=R.hs.getD i (0,0):=fun k v=>⟨k,fun i hi=>ziM _ _ _ _ _ hi⟩;unfold doG at h |-;by_cases ha:isH x.a
 ·rw[yb ha] at h |-;by_cases k1:x.k=1
  ·rw[yb k1] at h |-;unfold zso at h |-;obtain⟨D,F⟩:=zeX h;rw[F];obtain⟨_,ht,E,I,_⟩:=zlO D;have hp:=zfO I;exact Kept.mildly ha (wf.make E I ht.1 ht.2) (zlR E (Or.inl ⟨hp.1,rfl,rfl,rfl⟩)) (by omega) (by omega) _ (by simp) (one _ _)
  rw[ya k1] at h |-;by_cases k2:x.k=2
  ·rw[yb k2] at h |-;unfold zxR at h |-;obtain⟨D,F⟩:=zeX h;rw[F];unfold zte at D;by_cases E:zaH R.s (hd R x.a).1 (hd R x.a).2=0
   ·rw[yb E] at D;by_cases hl:zgi R.s (hd R x.a).1.toNat
    ·obtain⟨_,k,e,M,hu,U⟩:=zcD E;rw[e,yi] at hl |-;exact Kept.mildly ha (wf.free M hl) (zlR M (Or.inr ⟨hu,rfl,rfl⟩)) (by omega) (by omega) _ rfl same
    ·rw[ya hl] at D;omega
   ·rw[ya E] at D;exact absurd D E
  rw[ya k2] at h |-;by_cases k4:x.k=4
  ·rw[yb k4] at h |-;unfold znV at h |-;obtain⟨D,F⟩:=zeX h;rw[F];unfold zAo at D;by_cases E:zaH R.s (hd R x.a).1 (hd R x.a).2=0
   ·obtain⟨_,k,e,M,hu,U⟩:=zcD E;rw[e,yi];exact Kept.mildly ha (wf.leaveG M) (zju (zbb _ _) (fun i hi=>by obtain⟨a1,a2,a3,a4,a5,a6⟩:=zfS R.s k i;exact⟨a1,a2,a4,a5⟩)) (by omega) (by omega) _ rfl same
   ·rw[ya E] at D;exact absurd D E
  rw[ya k4] at h |-;by_cases k6:x.k=6
  ·rw[yb k6] at h |-;unfold zzw at h |-;rw[(zeX h).2];exact Kept.asked ha wf (by omega)
  rw[ya k6] at h |-;by_cases k5:x.k=5
  ·rw[yb k5] at h |-;unfold zxp at h |-;obtain⟨D,F⟩:=zeX h;rw[F];exact Kept.marked ha D (Or.inl k5) (by rw[ya (by omega)]) (fun h=>by omega)
  rw[ya k5] at h |-;by_cases J:x.k=11
  ·rw[yb J] at h |-;unfold zvl at h |-;by_cases hn:0<=x.n/\x.n<R.i.length
   ·rw[yb hn] at h |-;unfold zxp at h |-;obtain⟨D,F⟩:=zeX h;rw[F];exact Kept.marked ha D (Or.inr J) (by rw[yb J]) (fun _=>hn)
   ·rw[ya hn] at h;exact absurd h (by decide)
  rw[ya J] at h |-;by_cases Z:x.k=14
  ·rw[yb Z] at h |-;unfold zsm at h |-;rw[(zeX h).2];exact Kept.asked ha wf (by omega)
  rw[ya Z] at h |-;by_cases a7:x.k=15
  ·rw[yb a7] at h |-;unfold zxQ at h |-;rw[(zeX h).2];exact Kept.asked ha wf (by omega)
  rw[ya a7] at h |-;by_cases kk:x.k=3\/x.k=7\/x.k=8
  ·rw[yb kk] at h |-;by_cases hb:isH x.b
   ·rw[yb hb] at h |-;by_cases k7:x.k=7
    ·rw[yb k7] at h |-;unfold zsn at h |-;obtain⟨D,F⟩:=zeX h;rw[F];unfold zvV at D;by_cases E:zaH R.s (hd R x.a).1 (hd R x.a).2=0
     ·rw[yb E] at D;by_cases hl:zfs R.s (hd R x.a).1=true
      ·rw[yb hl] at D;omega
      ·rw[ya hl] at D;obtain⟨_,k,e,M,hu,U⟩:=zcD E;obtain⟨_,ht,E,I,_⟩:=zlO D;have hp:=zfO I;unfold zzT;rw[e] at hl |-;rw[yi];exact Kept.mildly ha (wf.attach _ E I M hu (by simpa using hl)) (zlR E (Or.inl ⟨hp.1,rfl,rfl,rfl⟩)) (by omega) (by omega) _ (by simp) (one _ _)
     ·rw[ya E] at D;exact absurd D E
    rw[ya k7] at h |-;by_cases k8:x.k=8
    ·rw[yb k8] at h |-;unfold aUp at h |-;rw[(zeX h).2];exact Kept.mildly ha wf (zju rfl (fun i hi=>ziz.rfl)) (by omega) (by omega) _ (by simp) (one _ _)
    rw[ya k8] at h |-;by_cases O:x.c<0
    ·rw[yb O] at h |-;unfold zdH at h |-;obtain⟨D,F⟩:=zeX h;rw[F];exact Kept.mildly ha (zhc D).1 (zhc D).2 (by omega) (by omega) _ rfl same
    ·rw[ya O] at h |-;by_cases T:isH x.c
     ·rw[yb T] at h |-;unfold zdH at h |-;obtain⟨D,F⟩:=zeX h;rw[F];exact Kept.mildly ha (zhc D).1 (zhc D).2 (by omega) (by omega) _ rfl same
     ·rw[ya T] at h;exact absurd h (by decide)
   ·rw[ya hb] at h;exact absurd h (by decide)
  ·rw[ya kk] at h;exact absurd h (by decide)
 ·rw[ya ha] at h;exact absurd h (by decide)
theorem zok{R:Rl}{x:Ac}(h:(doF R x).e=0):zaF R=0/\Kept R x (doF R x).r (doF R x).o/\zaF (doF R x).r=0:=by
 by_cases hc:zaF R=0
 ·have e:doF R x=doG R x:=yb hc;rw[e] at h |-;have k:=zvA hc h;obtain⟨h1,D,E,F⟩:=zaB hc;exact⟨hc,k,zen k.wf (k.hlen.trans D) (by rw[k.inn];exact E) (by rw[k.tld];exact F)⟩
 ·unfold doF at h;rw[ya hc] at h;exact absurd h hc
def zzm(q:Rs):Prop:=q.e≠0->q.r=zbK/\q.o=0
theorem zwU(E:Int)(R:Rl)(o:Int):zzm (ans E R o):=fun h=>by
 unfold ans at h |-;by_cases h0:E=0
 ·rw[yb h0] at h;exact absurd rfl h
 ·rw[ya h0];exact⟨rfl,rfl⟩
theorem zwV(E:Int):zzm (bad E):=fun _=>⟨rfl,rfl⟩
theorem zwW{c:Prop}[D c]{a b:Rs}(ha:zzm a)(E:zzm b):zzm (if c then a else b):=by
 by_cases h:c
 ·rw[yb h];exact ha
 ·rw[ya h];exact E
theorem zzB(R:Rl)(x:Ac):zzm (doG R x):=by
 unfold doG zso zxR znV zzw zvl zxp zsm zxQ zdH zsn aUp
 repeat' first|exact zwU _ _ _|exact zwV _|refine zwW ?_ ?_
theorem zob(E:Int):(bad E).r=zbK/\(bad E).o=0/\(bad E).e=E:=⟨rfl,rfl,rfl⟩
end Go.Proofs.YtcbcpomacdngmaaGreat
