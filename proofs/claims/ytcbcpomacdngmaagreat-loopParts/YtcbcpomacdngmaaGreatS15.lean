/-
  x
-/
import Derived.Test.YtcbcpomacdngmaaGreatS14
namespace Go.Proofs.YtcbcpomacdngmaaGreat
set_option maxRecDepth 100000
set_option maxHeartbeats 4000000
set_option linter.unusedVariables false
open Go.RowKit
theorem zzX:(Tryz.prog.info? 48).map (fun i=>(i.zero,i.size,i.bytes))=some (some (.slice none 0 0),1,24):=by kernel_rfl
theorem zwF(n:Nat)(hn:n<=24)(w:World):(Instr.makeSlice 242 (.int .i64 (n:Int)) (.int .i64 (n:Int))).run Tryz.prog w=.ok (.slice (some ⟨w.heap.size,0,none⟩) n n) (w.alloc (.cells (madeCells #[.slice none 0 0] n) 48)) :=
 run_make_row' (P:=Tryz.prog) 242 48 (.slice none 0 0) 24 Tryz.underlying242 zzX rfl .i64 .i64 n (by omega) (by omega) w
def zdI(w:World)(D n:Nat)(g:Nat->List Int):Prop :=
 (∀ p,p<n->∃ ga gc,w.cell? ⟨D,p,none⟩=some (.slice ga (g p).length gc)/\zaj w ga (g p)/\∀ b o s,ga=some ⟨b,o,s⟩->D<b)/\∀ p,w.frozen? ⟨D,p,none⟩=false
theorem zdI.below{w w' : World}{D n:Nat}{g:Nat->List Int}(h:zdI w D n g)(hg:D<w.heap.size)(E:Below w.heap.size w w'):zdI w' D n g :=
 ⟨fun p J=>by
  obtain⟨ga,gc,h1,F,I⟩:=h.1 p J;exact⟨ga,gc,(E.cell (by exact hg)).trans h1,F.below E,I⟩,fun p=>(E.frozen (by exact hg)).trans (h.2 p)⟩
theorem zkM{w:World}{ga:Option Addr}{l:List Int}(h:zaj w ga l){D o:Nat}{v:Value}(F:∀ b o s,ga=some ⟨b,o,s⟩->D<b):zaj (w.setCell ⟨D,o,none⟩ v) ga l:=fun i hi=>by
 obtain⟨b,E,e,hc⟩:=h i hi;have:=F b E none e;exact⟨b,E,e,(yC (yv _ _ _ _ (by show b≠D;omega))).trans hc⟩
theorem zdI.set{w:World}{F n:Nat}{g:Nat->List Int}(h:zdI w F n g){pl:Nat}{ga:Option Addr}{gc:Nat}{l:List Int}(U:pl<n)(hi:zaj w ga l)(M:∀ b o s,ga=some ⟨b,o,s⟩->F<b) :
  zdI (w.setCell ⟨F,pl,none⟩ (.slice ga l.length gc)) F n (fun p=>if p=pl then l else g p):=by
 refine⟨fun p I=>?_,fun p=>?_⟩
 ·by_cases e:p=pl
  ·subst e;obtain⟨D,E,h1,_⟩:=h.1 p U;simp only[if_true];exact⟨ga,gc,World.cell?_setCell_same _ _ _ h1,zkM hi M,M⟩
  ·simp only[ya e];obtain⟨D,E,h1,T,J⟩:=h.1 p I;exact⟨D,E,(World.cell?_setCell_other _ _ _ _ (by intro O;cases O;exact e rfl)).trans h1,zkM T J,J⟩
 ·rw[World.frozen?_setCell];exact h.2 p
theorem zdI.congr{w:World}{E n:Nat}{g D:Nat->List Int}(h:zdI w E n g)(e:∀ p,p<n->g p=D p):zdI w E n D :=
 ⟨fun p F=>by rw[<- e p F];exact h.1 p F,h.2⟩
theorem zit.far{B:Nat}{L:List Slt}{K:Nat->Value}{v:Value}{w:World}(h:zit B L K v w):∃ a c,v=.slice a L.length c/\∀ i,i<L.length->∃ b,a=some ⟨b,0,none⟩/\B<=b/\w.cell? ⟨b,i*3,none⟩=some (.int .i64 (slt L i).pl)/\w.cell? ⟨b,i*3+1,none⟩=some (.int .i64 (slt L i).num)/\∃ ga gc,w.cell? ⟨b,i*3+2,none⟩=some (.slice ga (slt L i).gv.length gc)/\zaj w ga (slt L i).gv/\∀ D o s,ga=some ⟨D,o,s⟩->B<=D:=by
 obtain⟨J,I⟩:=h;have E:=J;obtain⟨hl,h⟩:=J;rcases h with ⟨rfl,h0⟩ |⟨g,cap,M,rfl,T,hg,h1,Z,h3,h4⟩
 ·exact⟨none,0,by rw[h0],fun i hi=>by omega⟩
 ·refine⟨some ⟨g,0,none⟩,cap,rfl,fun i hi=>⟨g,rfl,T,?_⟩⟩
  have hc:∀ j,j<3->w.cell? ⟨g,i*3+j,none⟩=(zgC (slt L i) (K i))[j]?:=fun j U=>by
   rw[<- zjK L K U hi];exact E.cellAt (i*3+j) (by omega)
  obtain⟨sa,sc,F,O⟩:=zfP (I i hi);refine⟨hc 0 (by omega),hc 1 (by omega),sa,sc,?_,O,fun D o s e=>?_⟩
  ·rw[hc 2 (by omega),F];rfl
  ·have:=I i hi;rw[F,e] at this;exact(this.lt D rfl).1
theorem zpe(a:Option Addr)(c:Nat)(S:List Nd)(H:Nat)(w:World)(wf:WF S)(M:H<S.length)(E:zai w a S) :
  yM 214 #[.agg #[.slice a S.length c],.int .i64 (H:Int)] w fun e w' => ∃ v K,e=.returned v/\Below w.heap.size w w' /\ zit w.heap.size (zbM S H) K v w' := by
 by_cases D:zbV S H = -1
 ·refine(zrN a c S H w (by have:=wf.small;omega) E D).mono fun e w' ⟨T,O⟩=>?_;have F:zbM S H=[]:=by unfold zbM;rw[yb D]
  refine⟨_,fun _=>.slice none 0 0,T,O,?_⟩;rw[F];exact⟨World.ownsRow_nil _ _ _ _,fun i hi=>by cases hi⟩
 ·obtain⟨r,h1,I,J,_⟩:=zcj S H D;exact zrO a c S H r w wf wf.big M h1 I J E
theorem zrM{S:List Nd}(wf:WF S)(H:Nat):(zbM S H).length<=24:=by
 unfold zbM;split
 ·simp
 ·rename_i E;obtain⟨r,h1,D,_⟩:=zcj S H E;rw[D,yi];have:=zns S H (zbc S S.length r);have:=zfR wf h1;have:=wf.small;omega
theorem zvX(S:List Nd)(h:Nat):zvW S h (zbM S h)=zhn S (h+1):=by funext p;rfl
theorem zyP(w:World)(D o:Nat)(v:Value):Off (fun k=>k=D) w (w.setCell ⟨D,o,none⟩ v):=⟨rfl,rfl,rfl,by simp[World.setCell],fun _ _ E=>yv _ _ _ _ E⟩
theorem zyw(a:Option Addr)(c:Nat)(S:List Nd)(w:World)(wf:WF S)(hS:zai w a S) :
  yM 202 #[.agg #[.slice a S.length c]] w fun e w' => e=.returned (.slice (some ⟨w.heap.size+1,0,none⟩) S.length S.length)/\Below w.heap.size w w' /\ w.heap.size+1<w'.heap.size/\zdI w' (w.heap.size+1) S.length (zhn S S.length):=by
 have hN:=wf.small;have c7:=zwF S.length hN;have DS:Hid (∀ (h:Nat),h<S.length->∀ W,zai W a S->Calls _ _ _ _ _):=fun h hh W hW=>zpe a c S h W wf hh hW;have HS:Hid (zai w a S):=hS
 have PL:Hid (∀ (h i:Nat),i<(zbM S h).length->∃ k:Nat,(slt (zbM S h) i).pl=k/\k<S.length):=fun h i hi=>by
  obtain⟨r,k,j,_,_,_,e,hk,_⟩:=zdn wf (H:=h) (s:=slt (zbM S h) i) (by rw[zeN hi];exact List.getElem_mem hi);exact⟨k,e,hk⟩
 have FW:Hid (∀ h,(zbM S h).length<=24):=fun h=>zrM wf h;have ND:Hid (∀ h,((zbM S h).map Slt.pl).Nodup):=fun h=>zjt wf;clear hS wf;obtain⟨n,hn⟩:∃ n,S.length=n:=⟨_,rfl⟩;have HN:Hid (S.length=n):=hn;rw[hn] at hN c7 DS PL |-;clear hn
 have G0:Hid (zdI ((w.alloc (.cells #[.slice a n c] 43)).alloc (.cells (madeCells #[.slice none 0 0] n) 48)) (w.heap.size+1) n (zhn S 0)):=by
  refine⟨fun p hp=>⟨none,0,?_,(fun i hi=>absurd hi (yx _)),(fun b o s e=>by cases e)⟩,fun p=>?_⟩
  ·have:=zad (w.alloc (.cells #[.slice a n c] 43)) (madeCells #[.slice none 0 0] n) 48 p (v:=.slice none 0 0) (by simp[madeCells,hp,Nat.mod_one]);show World.cell? _ _=some (.slice none ([]:List Int).length 0);simpa using this
  ·go_simp
 go_enter Tryz.func202,Tryz.ntmps202
 go_wp2_with fail
 go_loopg [14] n (fun g s14 wr=>∃ h:Nat,h<=n/\n-h<=g/\s14=.int .i64 h/\Hid (Below w.heap.size w wr)/\wr.cell? ⟨w.heap.size,0,none⟩=some (.slice a n c)/\w.heap.size+1<wr.heap.size/\Hid (zdI wr (w.heap.size+1) n (zhn S h)))
 case atStart=>exact⟨0,by omega,by omega,rfl,zaf _ _ _,by go_simp,by simp,G0⟩
 case round =>
  obtain⟨h,hh,hg,rfl,HB,cs,b0,HG⟩:=hrel;clear G0;by_cases c6:h<n
  ·have c8:(h:Int)<(n:Int):=by omega
   go_wp2_with fail
   refine ye (DS.out h c6 _ (HS.out.below HB.out)) ?_;rintro e w3 ⟨v,K,rfl,hb,hO⟩;obtain⟨qa,qc,hv,O⟩:=hO.far;subst hv;have M:Hid _:=O;have E:=zab cs hb;have e2:=hb.size;have b4:Hid (Below w.heap.size w w3):=HB.out.trans (hb.mono HB.out.size);have b6:Hid (zdI w3 (w.heap.size+1) n (zhn S h)):=HG.out.below b0 hb;have Z:Hid _:=PL.out h;have fw:=FW.out h;have b8:Hid _:=ND.out h;have GA:Hid (zvW S h (zbM S h)=zhn S (h+1)):=zvX S h;clear hb hO O cs HG;generalize zbM S h=L at *;obtain⟨m,hm⟩:∃ z,L.length=z:=⟨_,rfl⟩;have HM:Hid (L.length=m):=hm;rw[hm] at M Z fw |-;clear hm
   go_wp2_with fail
   go_loopg [21] m (fun g s21 w2=>∃ i:Nat,i<=m/\m-i<=g/\s21=.int .i64 i/\Hid (Off (fun k=>k=w.heap.size+1) w3 w2)/\w2.cell? ⟨w.heap.size,0,none⟩=some (.slice a n c)/\w3.heap.size<=w2.heap.size/\Hid (zdI w2 (w.heap.size+1) n (zvW S h (L.take i))))
   case atStart=>exact⟨0,by omega,by omega,rfl,Off.refl _ _,E,yj _,b6⟩
   case round =>
    obtain⟨i,hi,e0,rfl,U,a5,d5,I⟩:=hrel;clear E;by_cases F:i<m
    ·have c9:(i:Int)<(m:Int):=(by omega);obtain⟨b,ea,d9,f0,f1,ga,gc,f2,a8,D⟩:=M.out i F;obtain⟨pl,a6,a9⟩:=Z.out i F;subst ea;rw[a6] at f0;have x0:=(U.out.cell (p:=⟨b,i*3,none⟩) (by exact yd _ _ f0) (by show ¬ b=_;omega)).trans f0;have x1:=(U.out.cell (p:=⟨b,i*3+1,none⟩) (by exact yd _ _ f1) (by show ¬ b=_;omega)).trans f1;have x2:=(U.out.cell (p:=⟨b,i*3+2,none⟩) (by exact yd _ _ f2) (by show ¬ b=_;omega)).trans f2;have d4:(pl:Int)<(n:Int):=by omega
     have b7:Hid (zaj wr ga (slt L i).gv):=fun j hj=>by
      obtain⟨b', o', e,hc⟩:=a8 j hj;have:=D b' o' none e;exact⟨b', o', e,(U.out.cell (by exact yd _ _ hc) (by show ¬ b' = _;omega)).trans hc⟩
     have b5:Hid (∀ b o s,ga=some ⟨b,o,s⟩->w.heap.size+1<b):=fun b o s e=>by have:=D b o s e;omega
     have EQ:Hid (∀ p,p<n->(if p=pl then (slt L i).gv else zvW S h (L.take i) p)=zvW S h (L.take (i+1)) p):=fun p hp=>by
      have a7:i<L.length:=(by rw[HM.out];exact F);rw[zte b8.out a7,<- zeN a7,a6];by_cases e:p=pl
      ·subst e;simp
      ·rw[ya e,ya (by omega)]
     obtain⟨d8,d6,b9,_⟩:=I.out.1 pl a9;have d7:=I.out.2 pl
     have b2:Hid (∀ o1:Obj,zdI ((wr.setCell ⟨w.heap.size+1,pl,none⟩ (.slice ga (slt L i).gv.length gc)).alloc o1) (w.heap.size+1) n (zvW S h (L.take (i+1)))):=fun o1 =>
      ((I.out.set (gc:=gc) a9 b7.out b5.out).congr EQ.out).below (by simp[World.setCell];omega) (zaa _ _)
     have E:∀ v,(wr.setCell ⟨w.heap.size+1,pl,none⟩ v).cell? ⟨w.heap.size,0,none⟩=some (.slice a n c):=fun v=>(yC (yv _ _ _ _ (by show w.heap.size≠w.heap.size+1;omega))).trans a5;have e1:w.heap.size+1<wr.heap.size:=(by omega);have b1:Hid _:=E;clear f0 f1 f2 a8 D E;generalize (slt L i).gv.length=gl at *;generalize (slt L i).num=nu at *
     go_wp2_with fail
     go_roundg (m-(i+1))
     case measure=>omega
     case rel=>exact⟨i+1,by omega,by omega,by go_num,(U.out.trans (zyP wr _ pl _)).trans (Off.of_below (zaa _ _)),zab (b1.out _) (zaa _ _),by simp[World.setCell];omega,b2.out _⟩
    ·have T:i=m:=(by omega);subst T
     have J:Hid (zdI wr (w.heap.size+1) n (zhn S (h+1))):=by
      have h1:=I.out;rw[List.take_of_length_le (by rw[HM.out];omega),GA.out] at h1;exact h1
     have b3:Hid (Below w.heap.size w wr):=b4.out.trans (U.out.below (by omega) (fun k hk=>by have:k=w.heap.size+1:=hk;omega))
     go_wp2_with fail
     go_roundg (n-(h+1))
     case measure=>omega
     case rel=>exact⟨h+1,by omega,by omega,by go_num,b3,a5,by omega,J⟩
  ·have T:h=n:=(by omega);subst T;have J:=HG;rw[<- HN.out] at J;clear HG
   go_wp2_with fail
   go_ret;exact⟨rfl,HB.out,b0,by rw[<- HN.out];exact J.out⟩
theorem zrJ(a:Option Addr)(c:Nat)(S:List Nd)(I U p r:Nat)(ka:Option Addr)(kl kc:Nat)(w:World)(hN:S.length<=24)(hr:r<S.length)(M:zbV S p=r)(O:zai w a S)(J:w.cell? ⟨I,0,none⟩=some (.slice a S.length c))(E:∃ b o,a=some ⟨b,o,none⟩/\w.cell? ⟨b,o+r*8+5,none⟩=some (.slice ka kl kc)) :
  yM 203 #[.int .i64 (p:Int),.pointer (some ⟨I,0,none⟩),.pointer (some ⟨U,0,none⟩)] w fun e w' => e=.returned (.slice ka kl kc)/\Below w.heap.size w w' := by
 have d:=zdm a c S (p:Int) w (by omega) O;rw[M] at d;have D:Hid _:=d;obtain⟨b,o,rfl,E⟩:=E;have a6:(r:Int)<(S.length:Int):=by omega
 have a7:((r:Int) == -1)=false:=by simp
 have a8:decide ((r:Int) = -1)=false:=by simp
 clear d O M;generalize S.length=n at *
 go_enter Tryz.func203,Tryz.ntmps203
 go_wp2_with fail
 refine ye D.out ?_;rintro e w1 ⟨rfl,F⟩;have Z:=zab J F;have a5:=zab E F;have T:Hid _:=F;clear F J E
 go_wp2_with fail
 go_ret;exact⟨rfl,T.out⟩
theorem zpd(a:Option Addr)(c:Nat)(S:List Nd)(I F U p:Nat)(ka:Option Addr)(kl kc:Nat)(w:World)(hN:S.length<=24)(hp:p<S.length)(T:zbV S p = -1)(Z:zai w a S)(J:w.cell? ⟨I,0,none⟩=some (.slice a S.length c))(M:w.cell? ⟨F,0,none⟩=some (.slice (some ⟨U,0,none⟩) S.length S.length))(O:w.cell? ⟨U,p,none⟩=some (.slice ka kl kc))(hk:0<kl) :
  yM 203 #[.int .i64 (p:Int),.pointer (some ⟨I,0,none⟩),.pointer (some ⟨F,0,none⟩)] w fun e w' => e=.returned (.slice ka kl kc)/\Below w.heap.size w w' := by
 have d:=zdm a c S (p:Int) w (by omega) Z;rw[T] at d;have D:Hid _:=d;have a9:(p:Int)<(S.length:Int):=by omega
 have a8:(0:Int)<(kl:Int):=by omega
 clear d Z T;generalize S.length=n at *
 go_enter Tryz.func203,Tryz.ntmps203
 go_wp2_with fail
 refine ye D.out ?_;rintro e w1 ⟨rfl,E⟩;have a5:=zab J E;have a6:=zab M E;have a7:=zab O E;have HB:Hid _:=E;clear E J O M
 go_wp2_with fail
 go_ret;exact⟨rfl,HB.out⟩
theorem zrI(a:Option Addr)(c:Nat)(S:List Nd)(J I Z p:Nat)(ka ga:Option Addr)(kl kc gc:Nat)(w:World)(hN:S.length<=24)(hp:p<S.length)(U:zbV S p = -1)(hS:zai w a S)(M:w.cell? ⟨J,0,none⟩=some (.slice a S.length c))(O:w.cell? ⟨I,0,none⟩=some (.slice (some ⟨Z,0,none⟩) S.length S.length))(T:w.cell? ⟨Z,p,none⟩=some (.slice ga 0 gc))(F:∃ b o,a=some ⟨b,o,none⟩/\w.cell? ⟨b,o+p*8+5,none⟩=some (.slice ka kl kc)) :
  yM 203 #[.int .i64 (p:Int),.pointer (some ⟨J,0,none⟩),.pointer (some ⟨I,0,none⟩)] w fun e w' => e=.returned (.slice ka kl kc)/\Below w.heap.size w w' := by
 have d:=zdm a c S (p:Int) w (by omega) hS;rw[U] at d;have D:Hid _:=d;obtain⟨b,o,rfl,F⟩:=F;have a9:(p:Int)<(S.length:Int):=by omega
 clear d hS U;generalize S.length=n at *
 go_enter Tryz.func203,Tryz.ntmps203
 go_wp2_with fail
 refine ye D.out ?_;rintro e w1 ⟨rfl,E⟩;have a5:=zab M E;have a6:=zab O E;have a7:=zab T E;have a8:=zab F E;have HB:Hid _:=E;clear E M T O F
 go_wp2_with fail
 go_ret;exact⟨rfl,HB.out⟩
def zja(S:List Nd)(k:Nat):List Int:=zbS (zbW S (zhn S S.length)) (zzL S) k
theorem zuM(a:Option Addr)(c:Nat)(S:List Nd)(I F U:Nat)(w:World)(wf:WF S)(J:zai w a S)(Z:w.cell? ⟨I,0,none⟩=some (.slice a S.length c))(cg:w.cell? ⟨F,0,none⟩=some (.slice (some ⟨U,0,none⟩) S.length S.length))(hG:zdI w U S.length (zhn S S.length))(p:Nat)(M:p<S.length) :
  ∃ ka kc,(zbW S (zhn S S.length) p).length<=9223372036854775807/\(∀ D,Below w.heap.size w D->zaj D ka (zbW S (zhn S S.length) p))/\∀ D,Below w.heap.size w D->yM 203 (#[.int .i64 (p:Int)] ++ #[.pointer (some ⟨I,0,none⟩),.pointer (some ⟨F,0,none⟩)]) D fun e w2=>e=.returned (.slice ka (zbW S (zhn S S.length) p).length kc)/\Below D.heap.size D w2:=by
 have hN:=wf.small;unfold zbW;by_cases T:zbV S p = -1
 ·rw[ya (by simpa using T)];obtain⟨ga,gc,g1,g2,_⟩:=hG.1 p M;by_cases hg:zhn S S.length p=[]
  ·rw[ya (by simpa using hg)];rw[hg] at g1;obtain⟨b,o,ea,_,_,_,_,_,⟨ka,kc,c5,E⟩,_⟩:=J p M;exact⟨ka,kc,by have:=wf.kids_small M;omega,fun D h1=>E.below h1,fun D h1=>zrI a c S I F U p ka ga _ kc gc D hN M T (J.below h1) (zab Z h1) (zab cg h1) (zab g1 h1) ⟨b,o,ea,zab c5 h1⟩⟩
  ·rw[yb (by simpa using hg)];have O:0<(zhn S S.length p).length:=List.length_pos_iff.2 hg;exact⟨ga,gc,by have:=(ztf wf (yj S.length) (p:=p)).1;omega,fun D h1=>g2.below h1,fun D h1=>zpd a c S I F U p ga _ gc D hN M T (J.below h1) (zab Z h1) (zab cg h1) (zab g1 h1) O⟩
 ·rw[yb (by simpa using T)];obtain⟨r,h1,h2,_⟩:=zcj S p T;rw[h2,yi];obtain⟨b,o,ea,_,_,_,_,_,⟨ka,kc,c5,E⟩,_⟩:=J r h1;exact⟨ka,kc,by have:=wf.kids_small h1;omega,fun D h1=>E.below h1,fun D hb=>zrJ a c S I F p r ka _ kc D hN h1 h2 (J.below hb) (zab Z hb) ⟨b,o,ea,zab c5 hb⟩⟩
theorem zvT(a:Option Addr)(c:Nat)(S:List Nd)(p u E:Int)(w:World)(Z:S.length<=9223372036854775807)(J:Big S)(O:zai w a S)(M:zaG S p u=E)(F:E≠0) :
  yM 190 #[.agg #[.slice a S.length c],.agg #[.int .i64 p,.int .i64 u]] w fun e w' => e=.returned (.tuple #[.slice none 0 0,.int .i64 E])/\Below w.heap.size w w' := by
 have D:Hid (∀ W,zai W a S->Calls _ _ _ _ _):=fun W hW=>ziC a c S p u E W Z J hW M F;have U:Hid (zai w a S):=O;have e1:(E == 0)=false:=beq_eq_false_iff_ne.2 F;have e2:decide (E=0)=false:=yF F;clear O M J;generalize S.length=n at *
 go_enter Tryz.func190,Tryz.ntmps190
 go_wp2_with fail
 refine ye (D.out _ (U.out.below (zaf _ _ _))) ?_;rintro e w1 ⟨rfl,T⟩;have I:Hid (Below w.heap.size w w1):=(zaf w _ _).trans (T.mono (by simp;omega));clear T
 go_wp2_with fail
 exact yw (v:=.tuple #[.slice none 0 0,.int .i64 E]) (by simp[results,Tryz.results190,go_sem]) rfl ⟨rfl,I.out.trans ((zaa _ _).mono I.out.size)⟩
theorem zvR{S:List Nd}(wf:WF S){k:Nat}(D:k<S.length):(zja S k).length<=S.length:=zuf wf (zxC wf) D (zzL S)
theorem zva(a:Option Addr)(c:Nat)(S:List Nd)(k E D F:Nat)(w:World)(wf:WF S)(I:k<S.length)(Z:zai w a S)(J:w.cell? ⟨E,0,none⟩=some (.slice a S.length c))(M:w.cell? ⟨D,0,none⟩=some (.slice (some ⟨F,0,none⟩) S.length S.length))(U:zdI w F S.length (zhn S S.length)) :
  yM 204 #[.int .i64 (k:Int),.func (.func 203) #[] #[.pointer (some ⟨E,0,none⟩),.pointer (some ⟨D,0,none⟩)]] w fun e w' => ∃ sa cap,e=.returned (.slice sa (zja S k).length cap)/\Below w.heap.size w w' /\ zaj w' sa (zja S k):=by
 have hN:=wf.small;have hl:=zvR wf I;unfold zja at hl |-;refine(zqj (zbW S (zhn S S.length)) S.length 203 #[.pointer (some ⟨E,0,none⟩),.pointer (some ⟨D,0,none⟩)] k (zzL S) w (yK Tryz.func203 (by kernel_rfl) rfl) (fun p hp=>zuM a c S E D F w wf Z J M U p hp) I (zlv wf (zxC wf) I) (by omega)).mono fun e w' ⟨sa,cap,h1,O,T,_⟩=>⟨sa,cap,h1,O,T⟩
theorem zys(a:Option Addr)(c:Nat)(S:List Nd)(k:Nat)(u:Int)(w:World)(wf:WF S)(hS:zai w a S)(hk:k<S.length)(hE:zaG S k u=0) :
  yM 190 #[.agg #[.slice a S.length c],.agg #[.int .i64 (k:Int),.int .i64 u]] w fun e w' => ∃ sa cap,e=.returned (.tuple #[.slice sa (zja S k).length cap,.int .i64 0])/\Below w.heap.size w w' /\ zaj w' sa (zja S k):=by
 have hN:=wf.small;have D:Hid (∀ W,zai W a S->Calls _ _ _ _ _):=fun W hW=>find_ok a c S k u W (by omega) wf.big hW hk hE (by have:=wf.kids_small hk;omega);have DG:Hid (∀ W,zai W a S->Calls _ _ _ _ _):=fun W hW=>zyw a c S W wf hW;have Z:Hid (∀ bs bg M W,zai W a S->World.cell? W ⟨bs,0,none⟩=some (.slice a S.length c)->World.cell? W ⟨bg,0,none⟩=some (.slice (some ⟨M,0,none⟩) S.length S.length)->zdI W M S.length (zhn S S.length)->Calls _ _ _ _ _):=fun bs bg M W h1 h2 h3 h4=>zva a c S k bs bg M W wf hk h1 h2 h3 h4;have HS:Hid (zai w a S):=hS;clear hS hE wf;generalize zja S k=F at *;generalize nd S k=x at *;obtain⟨xu,xn,xt,xm,xp,a6,xh,xc⟩:=x;generalize zhn S S.length=G at *;generalize S.length=n at *;dsimp only at D;obtain⟨fl,O⟩:∃ z,F.length=z:=⟨_,rfl⟩;rw[O] at Z |-;obtain⟨xl,U⟩:∃ z,a6.length=z:=⟨_,rfl⟩;rw[U] at D;clear O U
 go_enter Tryz.func190,Tryz.ntmps190
 go_wp2_with fail
 refine ye (D.out _ (HS.out.below (zaf _ _ _))) ?_;rintro e w1 ⟨g,rfl,E,_⟩;have l0:=zab (zax w #[.slice a n c] 43 0 (.cells #[.int .i64 (k:Int),.int .i64 u] 61) rfl) E;have l1:=zab (zay w #[.int .i64 (k:Int),.int .i64 u] 61 0 (.cells #[.slice a n c] 43) rfl) E;have q0:=yd _ _ l0;have q1:=yd _ _ l1;have J:Hid (Below w.heap.size w w1):=(zaf w _ _).trans (E.mono (by simp;omega));clear E D
 go_wp2_with fail
 refine ye (DG.out _ (HS.out.below (J.out.trans ((zaa _ _).mono J.out.size)))) ?_;rintro e w2 ⟨rfl,E,T,hG⟩;have m0:=zab (zab l0 (zaa _ _)) E;have m1:=zab (zab l1 (zaa _ _)) E;have r0:=yd _ _ m0;have r1:=yd _ _ m1;have I:Hid (Below w.heap.size w w2):=(J.out.trans ((zaa _ _).mono J.out.size)).trans (E.mono (by have:=J.out.size;simp;omega));have HG:Hid (zdI w2 _ n G):=hG;clear E l0 l1 q0 q1 DG hG;simp only[yr] at HG T |-;generalize w1.heap.size+1+1=M at *
 go_wp2_with fail
 refine ye (Z.out _ _ _ _ (HS.out.below (I.out.trans ((zaa _ _).mono I.out.size))) (zab m0 (zaa _ _)) (zad w2 _ _ 0 rfl) (zdI.below HG.out T (zaa _ _))) ?_;rintro e w3 ⟨sa,cap,rfl,E,hI⟩;have a5:Hid (Below w.heap.size w w3):=(I.out.trans ((zaa _ _).mono I.out.size)).trans (E.mono (by have:=I.out.size;simp;omega));have HI:Hid _:=hI;clear E hI Z HG m0 m1
 go_wp2_with fail
 exact yw (v:=.tuple #[.slice sa fl cap,.int .i64 0]) (by simp[results,Tryz.results190,go_sem]) rfl ⟨sa,cap,rfl,a5.out,HI.out⟩
structure Rl where
 s:List Nd
 hs:List (Int × Int)
 i:List Cl
 t:List Int
def zbE:Rl:=⟨[],[],[],[]⟩
structure Ac where
 k:Int
 a:Int
 b:Int
 c:Int
 n:Int
structure Rs where
 e:Int
 r:Rl
 o:Int
theorem zcD{S:List Nd}{p u:Int}(h:zaG S p u=0):WF S/\∃ k:Nat,p=k/\k<S.length/\(nd S k).u=true/\(nd S k).n=u :=
 ⟨(zfC S).1 (zfL h).1,holds_zero (zfL h).2⟩
theorem zuU{S:List Nd}{hs:List (Int × Int)}(h:zaY S hs=0):WF S/\∀ x ∈ hs,∃ k:Nat,x.1=k/\k<S.length/\(nd S k).u=true/\(nd S k).n=x.2:=by
 unfold zaY at h
 split at h
 ·rename_i E;refine⟨(zfC S).1 E,?_⟩
  induction hs with
  | nil=>intro x D;cases D
  | cons y r F =>
   unfold zfj at h
   split at h
   ·rename_i h0;intro x D;rcases List.mem_cons.1 D with rfl|D
    ·exact holds_zero h0
    ·exact F h x D
   ·exact absurd h (by assumption)
 ·exact absurd h (by assumption)
def zfZ(S:List Nd):Nat:=S.findIdx zcr
theorem zvO{S:List Nd}{k:Nat}(D:k<S.length)(h1:zcr (nd S k)=true)(E:∀ i,i<k->zcr (nd S i)=false):zfZ S=k:=by
 unfold zfZ;rw[List.findIdx_eq D];refine⟨by rw[<- zbf D];exact h1,fun j F=>?_⟩;have:=E j F;rw[zbf (by omega)] at this;exact this
theorem zvN{S:List Nd}(h:S.any zcr=true):zfZ S<S.length/\zcr (nd S (zfZ S))=true/\∀ i,i<zfZ S->zcr (nd S i)=false:=by
 obtain⟨k,E,h1,D⟩:=zqG h;rw[zvO E h1 D];exact⟨E,h1,D⟩
def mkS(S:List Nd)(t:Int):List Nd:=S.set (zfZ S) (zbO (nd S (zfZ S)) t)
def mkH(S:List Nd):Int × Int:=((zfZ S:Int),(nd S (zfZ S)).n+1)
theorem zlJ{S:List Nd}{t:Int}(h:zfr S t=0):WF S/\(0<=t/\t<=99)/\zfZ S<S.length/\zcr (nd S (zfZ S))=true/\∀ i,i<zfZ S->zcr (nd S i)=false:=by
 unfold zfr at h;by_cases hc:zbo S=0
 ·rw[yb hc] at h;by_cases D:0<=t/\t<=99
  ·rw[yb D] at h
   cases hq:S.any zcr with
   | true=>exact⟨(zfC S).1 hc,D,zvN hq⟩
   | false=>rw[hq,ya (by simp)] at h;omega
  ·rw[ya D] at h;omega
 ·rw[ya hc] at h;exact absurd h hc
instance (S:List Nd) (k:Nat):Decidable (zge S k):=by unfold zge;infer_instance
def ztb(S:List Nd)(p u:Int):Int:=if zaG S p u=0 then (if zge S p.toNat then 0 else 6) else zaG S p u
def zAr(S:List Nd)(p u:Int):Int:=if zaG S p u=0 then (if (nd S p.toNat).p = -1 then 6 else 0) else zaG S p u
def zxG(S:List Nd)(p u n:Int):Int:=if zaG S p u=0 then (if -1000000<=n/\n<=1000000 then 0 else 2) else zaG S p u
def zyg(S:List Nd)(p u:Int)(q:List Tst):Int:=if zaG S p u=0 then zfz q else zaG S p u
def zjX(S:List Nd)(p u q v:Int)(hs:List (Int × Int)):Int :=
 if zaY S ((p,u) ::(q,v) :: hs)=0 then (if ziZ S q.toNat p.toNat=true then (match hs with | []=>0|h :: _=>if (nd S h.1.toNat).p=p then 0 else 6) else 6) else zaY S ((p,u) ::(q,v) :: hs)
def zpD(S:List Nd)(p q:Int)(hs:List (Int × Int)):List Nd :=
 match hs with
 | []=>zbm (leaveG S q.toNat) p.toNat q.toNat (nd (leaveG S q.toNat) p.toNat).ks.length
 | h :: _=>if h.1=q then S else zbm (leaveG S q.toNat) p.toNat q.toNat (idx (nd (leaveG S q.toNat) p.toNat).ks h.1).toNat
def zwd(S:List Nd)(p u:Int):Int:=if zaG S p u=0 then (if zfp S p=true then 6 else zfr S 0) else zaG S p u
def zzU(S:List Nd)(p:Int)(c:Bool):List Nd:=S.set (zfZ S) (zbP (nd S (zfZ S)) p.toNat c)
def upE(S:List Nd)(p u:Int):Int:=if zaG S p u=0 then (if (nd S p.toNat).p = -1 then 6 else 0) else zaG S p u
def upH(S:List Nd)(p:Int):Int × Int:=((nd S p.toNat).p,(nd S (nd S p.toNat).p.toNat).n)
def zzr(S:List Nd)(p n:Int):List Nd:=S.set p.toNat { nd S p.toNat with m:=n }
def ans(E:Int)(R:Rl)(o:Int):Rs:=if E=0 then ⟨0,R,o⟩ else ⟨E,zbE,0⟩
def bad(E:Int):Rs:=⟨E,zbE,0⟩
theorem zeT{E:Int}{R:Rl}{o:Int}(h:(ans E R o).e=0):E=0/\ans E R o=⟨0,R,o⟩:=by
 by_cases D:E=0
 ·exact⟨D,yb D⟩
 ·unfold ans at h;rw[ya D] at h;exact absurd h D
def isH(k:Int):Prop:=0<=k/\k<=15
instance (k:Int):Decidable (isH k):=by unfold isH;infer_instance
def hd(R:Rl)(k:Int):Int × Int:=R.hs.getD k.toNat (0,0)
def zaF(R:Rl):Int:=if zbo R.s=0 then (if R.hs.length=16 then (if zav R.i=0 then (if 4800<R.t.length then 1 else 0) else zav R.i) else 3) else zbo R.s
def zsl(R:Rl)(a n:Int):Rs:=ans (zfr R.s n) ⟨mkS R.s n,R.hs.set a.toNat (mkH R.s),R.i,R.t⟩ 0
def zxT(R:Rl)(h:Int × Int):Rs:=ans (ztb R.s h.1 h.2) ⟨R.s.set h.1.toNat (zcV (nd R.s h.1.toNat)),R.hs,R.i,R.t⟩ 0
def znP(R:Rl)(h:Int × Int):Rs:=ans (zAr R.s h.1 h.2) ⟨leaveG R.s h.1.toNat,R.hs,R.i,R.t⟩ 0
def zzv(R:Rl)(h:Int × Int):Rs:=ans (zaG R.s h.1 h.2) R (nd R.s h.1.toNat).m
def zxw(R:Rl)(h:Int × Int)(n:Int):Rs:=ans (zxG R.s h.1 h.2 n) ⟨zzr R.s h.1 n,R.hs,R.i,R.t⟩ 0
def zvt(R:Rl)(h:Int × Int)(n:Int):Rs:=if 0<=n/\n<R.i.length then zxw R h (cl R.i n.toNat).n else bad 4
def zsj(R:Rl)(h:Int × Int)(t m:Int):Rs:=ans (zyg R.s h.1 h.2 [⟨t,m,false⟩]) R (zgS R.s h.1.toNat [⟨t,m,false⟩]).length
def zxS(R:Rl)(h:Int × Int):Rs:=ans (zaG R.s h.1 h.2) R (zja R.s h.1.toNat).length
def zdK(R:Rl)(h g:Int × Int)(hs:List (Int × Int)):Rs:=ans (zjX R.s h.1 h.2 g.1 g.2 hs) ⟨zpD R.s h.1 g.1 hs,R.hs,R.i,R.t⟩ 0
def zsk(R:Rl)(b:Int)(h:Int × Int)(c:Bool):Rs:=ans (zwd R.s h.1 h.2) ⟨zzU R.s h.1 c,R.hs.set b.toNat (mkH R.s),R.i,R.t⟩ 0
def aUp(R:Rl)(b:Int)(h:Int × Int):Rs:=ans (upE R.s h.1 h.2) ⟨R.s,R.hs.set b.toNat (upH R.s h.1),R.i,R.t⟩ 0
def doG(R:Rl)(x:Ac):Rs :=
 if isH x.a then
  if x.k=1 then zsl R x.a x.n
  else if x.k=2 then zxT R (hd R x.a)
  else if x.k=4 then znP R (hd R x.a)
  else if x.k=6 then zzv R (hd R x.a)
  else if x.k=5 then zxw R (hd R x.a) x.n
  else if x.k=11 then zvt R (hd R x.a) x.n
  else if x.k=14 then zsj R (hd R x.a) x.b x.n
  else if x.k=15 then zxS R (hd R x.a)
  else if x.k=3\/x.k=7\/x.k=8 then
   if isH x.b then
    if x.k=7 then zsk R x.b (hd R x.a) (decide (x.n=1))
    else if x.k=8 then aUp R x.b (hd R x.a)
    else if x.c<0 then zdK R (hd R x.a) (hd R x.b) []
    else if isH x.c then zdK R (hd R x.a) (hd R x.b) [hd R x.c] else bad 4
   else bad 4
  else bad 3
 else bad 4
def doF(R:Rl)(x:Ac):Rs:=if zaF R=0 then doG R x else bad (zaF R)
theorem WF.mark{S:List Nd}(h:WF S){k:Nat}{n:Int}(E:k<S.length)(F:(nd S k).u=true)(hn:-1000000<=n/\n<=1000000):WF (S.set k { nd S k with m:=n }):=by
 refine h.like (by simp) (fun i hi=>?_) (fun i hi=>?_) (fun i hi D=>?_)
 ·rw[zcP S k i _ E];split
  ·rename_i e;subst e;obtain⟨r1,r2,r3⟩:=zbd (h.node i hi);obtain⟨I,J,M⟩:=zeJ r2;refine zgx ?_ (zeI I J M) ?_
   ·unfold zcS at r1 |-;simp only[Bool.and_eq_true,decide_eq_true_eq] at r1 |-;exact⟨r1.1,r1.2.1,hn⟩
   ·unfold zec at r3 |-;dsimp only;rw[yb F] at r3 |-;exact r3
  ·exact h.node i hi
 ·rw[zcP S k i _ E];split
  ·rename_i e;subst e;exact⟨rfl,rfl,rfl⟩
  ·exact⟨rfl,rfl,rfl⟩
 ·rw[zcP S k i _ E];split
  ·exact Or.inl F
  ·exact Or.inl D
def ziu(x y:Nd):Prop:=y.u=x.u/\y.n=x.n/\y.t=x.t/\y.m=x.m
def zAL(x y:Nd):Prop:=x.u=false/\y.u=true/\y.n=x.n+1/\y.m=x.m
def zAM(x y:Nd):Prop:=x.u=true/\y.u=false/\y.n=x.n
def zxv(x y:Nd):Prop:=y.u=x.u/\y.n=x.n/\y.t=x.t
def zzk(S T:List Nd):Prop:=T.length=S.length/\∃ q,∀ i,i<S.length->ziu (nd S i) (nd T i)\/(i=q/\(zAL (nd S i) (nd T i)\/zAM (nd S i) (nd T i)))
theorem ziu.rfl{x:Nd}:ziu x x:=⟨Eq.refl _,Eq.refl _,Eq.refl _,Eq.refl _⟩
theorem zjq{S T:List Nd}(hl:T.length=S.length)(h:∀ i,i<S.length->ziu (nd S i) (nd T i)):zzk S T:=⟨hl,0,fun i hi=>Or.inl (h i hi)⟩
theorem zlM{S:List Nd}{k:Nat}{y:Nd}(D:k<S.length)(h:zAL (nd S k) y\/zAM (nd S k) y):zzk S (S.set k y):=⟨by simp,k,fun i hi=>by
 rw[zcP S k i _ D];split
 ·rename_i e;subst e;exact Or.inr ⟨rfl,h⟩
 ·exact Or.inl ziu.rfl⟩
theorem zgW{S:List Nd}{p u q v:Int}{hs:List (Int × Int)}(h:zjX S p u q v hs=0):WF (zpD S p q hs)/\zzk S (zpD S p q hs):=by
 unfold zjX at h;by_cases h0:zaY S ((p,u) ::(q,v) :: hs)=0
 ·rw[yb h0] at h;obtain⟨wf,O⟩:=zuU h0;obtain⟨pa,J,hpa,hpu,I⟩:=O (p,u) (by simp);obtain⟨D,M,hch,hcu,E⟩:=O (q,v) (by simp);dsimp only at J M I E;subst J;subst M;rw[yi,yi] at h;by_cases F:ziZ S D pa=true
  ·rw[yb F] at h;have pt:zzm S pa D:=⟨wf,hpa,hch,hpu,hcu,F⟩
   have key:∀ at', WF (zbm (leaveG S D) pa D at')/\zzk S (zbm (leaveG S D) pa D at'):=fun at' => ⟨pt.insert at', zjq (by rw[zbp,zbh]) (fun i hi=>by
    obtain⟨a1,a2,a3,a4,T,a6⟩:=zfQ S D i;obtain⟨U,Z,b3,b4,b5,b6⟩:=zeE (leaveG S D) pa D at' i;exact⟨U.trans a1,Z.trans a2,b4.trans a4,b5.trans T⟩)⟩
   unfold zpD;rw[yi,yi]
   match hs with
   | []=>exact key _
   | hh :: r =>
    dsimp only;split
    ·exact⟨wf,zjq rfl (fun i hi=>ziu.rfl)⟩
    ·exact key _
  ·rw[ya F] at h;omega
 ·rw[ya h0] at h;exact absurd h h0
structure Kept (R:Rl) (x:Ac) (Q:Rl) (o:Int):Prop where
 a:isH x.a
 wf:WF Q.s
 len:Q.s.length=R.s.length
 hlen:Q.hs.length=R.hs.length
 inn:Q.i=R.i
 tld:Q.t=R.t
 told:o≠0->x.k=6\/x.k=14\/x.k=15
 same:x.k=6\/x.k=14\/x.k=15->Q=R
 node:∃ q,∀ i,i<R.s.length->ziu (nd R.s i) (nd Q.s i)\/(i=q/\(zAL (nd R.s i) (nd Q.s i)\/zAM (nd R.s i) (nd Q.s i)\/zxv (nd R.s i) (nd Q.s i)))
 hand:∃ q,∀ i,i≠q->Q.hs.getD i (0,0)=R.hs.getD i (0,0)
 mark:x.k=5\/x.k=11->∃ k:Nat,(hd R x.a).1=k/\k<R.s.length/\(nd R.s k).u=true/\(nd R.s k).n=(hd R x.a).2/\(x.k=11->0<=x.n/\x.n<R.i.length)/\Q.s=R.s.set k { nd R.s k with m:=if x.k=11 then (cl R.i x.n.toNat).n else x.n }/\Q.hs=R.hs
 mild:x.k≠5->x.k≠11->zzk R.s Q.s
theorem ziE{α:Type}(l:List α)(k i:Nat)(v d:α)(h:i≠k):(l.set k v).getD i d=l.getD i d:=by
 simp only[List.getD_eq_getElem?_getD,List.getElem?_set_ne (Ne.symm h)]
theorem Kept.mildly{R:Rl}{x:Ac}{T:List Nd}(ha:isH x.a)(wf:WF T)(D:zzk R.s T)(I:x.k≠6/\x.k≠14/\x.k≠15)(F:x.k≠5/\x.k≠11)(H:List (Int × Int))(hl:H.length=R.hs.length)(E:∃ q,∀ i,i≠q->H.getD i (0,0)=R.hs.getD i (0,0)):Kept R x ⟨T,H,R.i,R.t⟩ 0 :=
 {a:=ha,wf:=wf,len:=D.1,hlen:=hl,inn:=rfl,tld:=rfl,told:=fun h=>absurd rfl h,same:=fun h=>(by omega),
  node:=by
   obtain⟨_,q,h⟩:=D;exact⟨q,fun i hi=>(h i hi).imp id (fun⟨e,hh⟩=>⟨e,hh.elim Or.inl (fun h=>Or.inr (Or.inl h))⟩)⟩
  hand:=E,mark:=fun h=>(by omega),mild:=fun _ _=>D }
theorem Kept.asked{R:Rl}{x:Ac}{o:Int}(ha:isH x.a)(wf:WF R.s)(D:x.k=6\/x.k=14\/x.k=15):Kept R x R o :=
 {a:=ha,wf:=wf,len:=rfl,hlen:=rfl,inn:=rfl,tld:=rfl,told:=fun _=>D,same:=fun _=>rfl,
  node:=⟨0,fun i hi=>Or.inl ziu.rfl⟩,hand:=⟨0,fun i hi=>rfl⟩,mark:=fun h=>(by omega),mild:=fun _ _=>zjq rfl (fun i hi=>ziu.rfl) }
theorem Kept.marked{R:Rl}{x:Ac}{n:Int}(ha:isH x.a)(E:zxG R.s (hd R x.a).1 (hd R x.a).2 n=0)(U:x.k=5\/x.k=11)(hn:n=if x.k=11 then (cl R.i x.n.toNat).n else x.n)(hi:x.k=11->0<=x.n/\x.n<R.i.length):Kept R x ⟨zzr R.s (hd R x.a).1 n,R.hs,R.i,R.t⟩ 0:=by
 unfold zxG at E;by_cases F:zaG R.s (hd R x.a).1 (hd R x.a).2=0
 ·rw[yb F] at E;by_cases J:-1000000<=n/\n<=1000000
  ·obtain⟨wf,k,e,D,M,I⟩:=zcD F;have O:zzr R.s (hd R x.a).1 n=R.s.set k { nd R.s k with m:=n }:=(by unfold zzr;rw[e,yi]);rw[O]
   exact
    {a:=ha,wf:=wf.mark D M J,len:=by simp,hlen:=rfl,inn:=rfl,tld:=rfl,told:=fun h=>absurd rfl h,same:=fun h=>(by omega),
     node:=⟨k,fun i hi=>by
      show ziu _ (nd (R.s.set k _) i)\/(i=k/\(zAL _ (nd (R.s.set k _) i)\/zAM _ (nd (R.s.set k _) i)\/zxv _ (nd (R.s.set k _) i)));rw[zcP R.s k i _ D];split
      ·rename_i e;subst e;exact Or.inr ⟨rfl,Or.inr (Or.inr ⟨rfl,rfl,rfl⟩)⟩
      ·exact Or.inl ziu.rfl⟩
     hand:=⟨0,fun i hi=>rfl⟩,mark:=fun _=>⟨k,e,D,M,I,hi,by rw[<- hn],rfl⟩,mild:=fun h1 T=>by omega }
  ·rw[ya J] at E;omega
 ·rw[ya F] at E;exact absurd E F
theorem zaB{R:Rl}(h:zaF R=0):WF R.s/\R.hs.length=16/\zav R.i=0/\R.t.length<=4800:=by
 unfold zaF at h;by_cases h1:zbo R.s=0
 ·rw[yb h1] at h;by_cases E:R.hs.length=16
  ·rw[yb E] at h;by_cases D:zav R.i=0
   ·rw[yb D] at h;by_cases F:4800<R.t.length
    ·rw[yb F] at h;omega
    ·exact⟨(zfC _).1 h1,E,D,by omega⟩
   ·rw[ya D] at h;exact absurd h D
  ·rw[ya E] at h;omega
 ·rw[ya h1] at h;exact absurd h h1
theorem zep{R:Rl}(h1:WF R.s)(D:R.hs.length=16)(E:zav R.i=0)(F:R.t.length<=4800):zaF R=0:=by
 unfold zaF;rw[yb ((zfC _).2 h1),yb D,yb E,ya (by omega)]
theorem zvI{R:Rl}{x:Ac}(hc:zaF R=0)(h:(doG R x).e=0):Kept R x (doG R x).r (doG R x).o:=by
 obtain⟨wf,a8,_,_⟩:=zaB hc;have same:∃ q,∀ i,i≠q->R.hs.getD i (0,0)=R.hs.getD i (0,0):=⟨0,fun i _=>rfl⟩;have one:∀ (k:Nat) v,∃ q,∀ i,i≠q->(R.hs.set k v).getD i (0,0)=R.hs.getD i (0,0):=fun k v=>⟨k,fun i hi=>ziE _ _ _ _ _ hi⟩;unfold doG at h |-;by_cases ha:isH x.a
 ·rw[yb ha] at h |-;by_cases k1:x.k=1
  ·rw[yb k1] at h |-;unfold zsl at h |-;obtain⟨D,F⟩:=zeT h;rw[F];obtain⟨_,ht,E,I,_⟩:=zlJ D;have hp:=zfM I;exact Kept.mildly ha (wf.make E I ht.1 ht.2) (zlM E (Or.inl ⟨hp.1,rfl,rfl,rfl⟩)) (by omega) (by omega) _ (by simp) (one _ _)
  rw[ya k1] at h |-;by_cases k2:x.k=2
  ·rw[yb k2] at h |-;unfold zxT at h |-;obtain⟨D,F⟩:=zeT h;rw[F];unfold ztb at D;by_cases E:zaG R.s (hd R x.a).1 (hd R x.a).2=0
   ·rw[yb E] at D;by_cases hl:zge R.s (hd R x.a).1.toNat
    ·obtain⟨_,k,e,M,hu,U⟩:=zcD E;rw[e,yi] at hl |-;exact Kept.mildly ha (wf.free M hl) (zlM M (Or.inr ⟨hu,rfl,rfl⟩)) (by omega) (by omega) _ rfl same
    ·rw[ya hl] at D;omega
   ·rw[ya E] at D;exact absurd D E
  rw[ya k2] at h |-;by_cases k4:x.k=4
  ·rw[yb k4] at h |-;unfold znP at h |-;obtain⟨D,F⟩:=zeT h;rw[F];unfold zAr at D;by_cases E:zaG R.s (hd R x.a).1 (hd R x.a).2=0
   ·obtain⟨_,k,e,M,hu,U⟩:=zcD E;rw[e,yi];exact Kept.mildly ha (wf.leaveG M) (zjq (zbh _ _) (fun i hi=>by obtain⟨a1,a2,a3,a4,a5,a6⟩:=zfQ R.s k i;exact⟨a1,a2,a4,a5⟩)) (by omega) (by omega) _ rfl same
   ·rw[ya E] at D;exact absurd D E
  rw[ya k4] at h |-;by_cases k6:x.k=6
  ·rw[yb k6] at h |-;unfold zzv at h |-;rw[(zeT h).2];exact Kept.asked ha wf (by omega)
  rw[ya k6] at h |-;by_cases k5:x.k=5
  ·rw[yb k5] at h |-;unfold zxw at h |-;obtain⟨D,F⟩:=zeT h;rw[F];exact Kept.marked ha D (Or.inl k5) (by rw[ya (by omega)]) (fun h=>by omega)
  rw[ya k5] at h |-;by_cases J:x.k=11
  ·rw[yb J] at h |-;unfold zvt at h |-;by_cases hn:0<=x.n/\x.n<R.i.length
   ·rw[yb hn] at h |-;unfold zxw at h |-;obtain⟨D,F⟩:=zeT h;rw[F];exact Kept.marked ha D (Or.inr J) (by rw[yb J]) (fun _=>hn)
   ·rw[ya hn] at h;exact absurd h (by decide)
  rw[ya J] at h |-;by_cases Z:x.k=14
  ·rw[yb Z] at h |-;unfold zsj at h |-;rw[(zeT h).2];exact Kept.asked ha wf (by omega)
  rw[ya Z] at h |-;by_cases a7:x.k=15
  ·rw[yb a7] at h |-;unfold zxS at h |-;rw[(zeT h).2];exact Kept.asked ha wf (by omega)
  rw[ya a7] at h |-;by_cases kk:x.k=3\/x.k=7\/x.k=8
  ·rw[yb kk] at h |-;by_cases hb:isH x.b
   ·rw[yb hb] at h |-;by_cases k7:x.k=7
    ·rw[yb k7] at h |-;unfold zsk at h |-;obtain⟨D,F⟩:=zeT h;rw[F];unfold zwd at D;by_cases E:zaG R.s (hd R x.a).1 (hd R x.a).2=0
     ·rw[yb E] at D;by_cases hl:zfp R.s (hd R x.a).1=true
      ·rw[yb hl] at D;omega
      ·rw[ya hl] at D;obtain⟨_,k,e,M,hu,U⟩:=zcD E;obtain⟨_,ht,E,I,_⟩:=zlJ D;have hp:=zfM I;unfold zzU;rw[e] at hl |-;rw[yi];exact Kept.mildly ha (wf.attach _ E I M hu (by simpa using hl)) (zlM E (Or.inl ⟨hp.1,rfl,rfl,rfl⟩)) (by omega) (by omega) _ (by simp) (one _ _)
     ·rw[ya E] at D;exact absurd D E
    rw[ya k7] at h |-;by_cases k8:x.k=8
    ·rw[yb k8] at h |-;unfold aUp at h |-;rw[(zeT h).2];exact Kept.mildly ha wf (zjq rfl (fun i hi=>ziu.rfl)) (by omega) (by omega) _ (by simp) (one _ _)
    rw[ya k8] at h |-;by_cases O:x.c<0
    ·rw[yb O] at h |-;unfold zdK at h |-;obtain⟨D,F⟩:=zeT h;rw[F];exact Kept.mildly ha (zgW D).1 (zgW D).2 (by omega) (by omega) _ rfl same
    ·rw[ya O] at h |-;by_cases T:isH x.c
     ·rw[yb T] at h |-;unfold zdK at h |-;obtain⟨D,F⟩:=zeT h;rw[F];exact Kept.mildly ha (zgW D).1 (zgW D).2 (by omega) (by omega) _ rfl same
     ·rw[ya T] at h;exact absurd h (by decide)
   ·rw[ya hb] at h;exact absurd h (by decide)
  ·rw[ya kk] at h;exact absurd h (by decide)
 ·rw[ya ha] at h;exact absurd h (by decide)
theorem zoe{R:Rl}{x:Ac}(h:(doF R x).e=0):zaF R=0/\Kept R x (doF R x).r (doF R x).o/\zaF (doF R x).r=0:=by
 by_cases hc:zaF R=0
 ·have e:doF R x=doG R x:=yb hc;rw[e] at h |-;have k:=zvI hc h;obtain⟨h1,D,E,F⟩:=zaB hc;exact⟨hc,k,zep k.wf (k.hlen.trans D) (by rw[k.inn];exact E) (by rw[k.tld];exact F)⟩
 ·unfold doF at h;rw[ya hc] at h;exact absurd h hc
def zzn(q:Rs):Prop:=q.e≠0->q.r=zbE/\q.o=0
theorem zxb(E:Int)(R:Rl)(o:Int):zzn (ans E R o):=fun h=>by
 unfold ans at h |-;by_cases h0:E=0
 ·rw[yb h0] at h;exact absurd rfl h
 ·rw[ya h0];exact⟨rfl,rfl⟩
theorem zxc(E:Int):zzn (bad E):=fun _=>⟨rfl,rfl⟩
theorem zxd{c:Prop}[Decidable c]{a b:Rs}(ha:zzn a)(D:zzn b):zzn (if c then a else b):=by
 by_cases h:c
 ·rw[yb h];exact ha
 ·rw[ya h];exact D
theorem zzB(R:Rl)(x:Ac):zzn (doG R x):=by
 unfold doG zsl zxT znP zzv zvt zxw zsj zxS zdK zsk aUp
 repeat' first|exact zxb _ _ _|exact zxc _|refine zxd ?_ ?_
theorem znV(E:Int):(bad E).r=zbE/\(bad E).o=0/\(bad E).e=E:=⟨rfl,rfl,rfl⟩
end Go.Proofs.YtcbcpomacdngmaaGreat
