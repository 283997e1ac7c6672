/-
  x
-/
import Derived.Test.YtgjfmepbphfjoaaGreatQ17
import Derived.Deep.RegionWith
namespace Go.Proofs.YtgjfmepbphfjoaaGreat
set_option maxRecDepth 100000
set_option maxHeartbeats 4000000
set_option linter.unusedVariables false
open Go.RowKit
theorem zst:(Tryz.prog.info? 29).map (fun i=>(i.zero,i.size,i.bytes))=some (some (.slice none 0 0),1,24):=by kernel_rfl
theorem zqi(n:Nat)(hn:n<=24)(w:World):(Instr.makeSlice 148 (.int .i64 (n:Int)) (.int .i64 (n:Int))).run Tryz.prog w=.ok (.slice (some ⟨w.heap.size,0,none⟩) n n) (w.alloc (.cells (madeCells #[.slice none 0 0] n) 29)) :=
 run_make_row' (P:=Tryz.prog) 148 29 (.slice none 0 0) 24 Tryz.underlying148 zst rfl .i64 .i64 n (by omega) (by omega) w
def zde(w:World)(D n:Nat)(g:Nat->List Int):Prop :=
 (∀ p,p<n->∃ A gc,w.cell? ⟨D,p,none⟩=some (.slice A (g p).length gc)/\zaj w A (g p)/\∀ b o s,A=some ⟨b,o,s⟩->D<b)/\∀ p,w.frozen? ⟨D,p,none⟩=false
theorem zde.below{w w' : World}{A n:Nat}{g:Nat->List Int}(h:zde w A n g)(hg:A<w.heap.size)(D:Below w.heap.size w w'):zde w' A n g :=
 ⟨fun p M=>by
  obtain⟨F,gc,h1,I,J⟩:=h.1 p M;exact⟨F,gc,(D.cell (by exact hg)).trans h1,I.below D,J⟩,fun p=>(D.frozen (by exact hg)).trans (h.2 p)⟩
theorem zhn{w:World}{A:Option Addr}{l:List Int}(h:zaj w A l){D o:Nat}{v:Value}(I:∀ b o s,A=some ⟨b,o,s⟩->D<b):zaj (w.setCell ⟨D,o,none⟩ v) A l:=fun i M=>by
 obtain⟨b,F,e,J⟩:=h i M;have:=I b F none e;exact⟨b,F,e,(yw (yo _ _ _ _ (by show b≠D;omega))).trans J⟩
theorem zde.set{w:World}{I n:Nat}{g:Nat->List Int}(h:zde w I n g){pl:Nat}{F:Option Addr}{gc:Nat}{l:List Int}(V:pl<n)(U:zaj w F l)(O:∀ b o s,F=some ⟨b,o,s⟩->I<b) :
  zde (w.setCell ⟨I,pl,none⟩ (.slice F l.length gc)) I n (fun p=>if p=pl then l else g p):=by
 refine⟨fun p J=>?_,fun p=>?_⟩
 ·by_cases e:p=pl
  ·subst e;obtain⟨A,D,h1,_⟩:=h.1 p V;simp only[if_true];exact⟨F,gc,World.cell?_setCell_same _ _ _ h1,zhn U O,O⟩
  ·simp only[ya e];obtain⟨A,D,h1,T,M⟩:=h.1 p J;exact⟨A,D,(World.cell?_setCell_other _ _ _ _ (by intro e2;cases e2;exact e rfl)).trans h1,zhn T M,M⟩
 ·rw[World.frozen?_setCell];exact h.2 p
theorem zde.congr{w:World}{D n:Nat}{g A:Nat->List Int}(h:zde w D n g)(e:∀ p,p<n->g p=A p):zde w D n A :=
 ⟨fun p F=>by rw[<- e p F];exact h.1 p F,h.2⟩
theorem zdX.far{B:Nat}{L:List Slt}{K:Nat->Value}{v:Value}{w:World}(h:zdX B L K v w):∃ a c,v=.slice a L.length c/\∀ i,i<L.length->∃ b,a=some ⟨b,0,none⟩/\B<=b/\w.cell? ⟨b,i*3,none⟩=some (.int .i64 (slt L i).pl)/\w.cell? ⟨b,i*3+1,none⟩=some (.int .i64 (slt L i).num)/\∃ F gc,w.cell? ⟨b,i*3+2,none⟩=some (.slice F (slt L i).gv.length gc)/\zaj w F (slt L i).gv/\∀ A o s,F=some ⟨A,o,s⟩->B<=A:=by
 obtain⟨O,M⟩:=h;have J:=O;obtain⟨hl,h⟩:=O;rcases h with ⟨rfl,h0⟩ |⟨g,cap,T,rfl,U,hg,h1,h2,h3,h4⟩
 ·exact⟨none,0,by rw[h0],fun i D=>by omega⟩
 ·refine⟨some ⟨g,0,none⟩,cap,rfl,fun i D=>⟨g,rfl,U,?_⟩⟩
  have I:∀ j,j<3->w.cell? ⟨g,i*3+j,none⟩=(zep (slt L i) (K i))[j]?:=fun j V=>by
   rw[<- zgG L K V D];exact J.cellAt (i*3+j) (by omega)
  obtain⟨Z,sc,e1,e2⟩:=zcp (M i D);refine⟨I 0 (by omega),I 1 (by omega),Z,sc,?_,e2,fun A o s e=>?_⟩
  ·rw[I 2 (by omega),e1];rfl
  ·have:=M i D;rw[e1,e] at this;exact(this.lt A rfl).1
theorem zkC(a:Option Addr)(c:Nat)(S:List Nd)(H:Nat)(w:World)(wf:WF S)(J:H<S.length)(A:zae w a S) :
  Calls Tryz.prog 142 #[.agg #[.slice a S.length c],.int .i64 (H:Int)] w fun e w' => ∃ v K,e=.returned v/\Below w.heap.size w w' /\ zdX w.heap.size (zaz S H) K v w' := by
 by_cases hr:zbw S H = -1
 ·refine(zmX a c S H w (by have:=wf.small;omega) A hr).mono fun e w' ⟨O,M⟩=>?_;have D:zaz S H=[]:=by unfold zaz;rw[yd hr]
  refine⟨_,fun _=>.slice none 0 0,O,M,?_⟩;rw[D];exact⟨World.ownsRow_nil _ _ _ _,fun i T=>by cases T⟩
 ·obtain⟨r,h1,F,I,_⟩:=zbM S H hr;exact zmY a c S H r w wf wf.big J h1 F I A
theorem zhz{S:List Nd}(wf:WF S)(H:Nat):(zaz S H).length<=24:=by
 unfold zaz;split
 ·simp
 ·rename_i hr;obtain⟨r,h1,w,_⟩:=zbM S H hr;rw[w,yg];have:=zju S H (zaw S S.length r);have:=zdc wf h1;have:=wf.small;omega
theorem zpP(S:List Nd)(h:Nat):zpO S h (zaz S h)=zcJ S (h+1):=by funext p;rfl
theorem zrM(w:World)(A o:Nat)(v:Value):Off (fun k=>k=A) w (w.setCell ⟨A,o,none⟩ v):=⟨rfl,rfl,rfl,by simp[World.setCell],fun _ _ D=>yo _ _ _ _ D⟩
theorem zrB(a:Option Addr)(c:Nat)(S:List Nd)(w:World)(wf:WF S)(hS:zae w a S) :
  Calls Tryz.prog 130 #[.agg #[.slice a S.length c]] w fun e w' => e=.returned (.slice (some ⟨w.heap.size+1,0,none⟩) S.length S.length)/\Below w.heap.size w w' /\ w.heap.size+1<w'.heap.size/\zde w' (w.heap.size+1) S.length (zcJ S S.length):=by
 have hN:=wf.small;have c9:=zqi S.length hN;have DS:Hid (∀ (h:Nat),h<S.length->∀ W,zae W a S->Calls _ _ _ _ _):=fun h hh W hW=>zkC a c S h W wf hh hW;have HS:Hid (zae w a S):=hS
 have PL:Hid (∀ (h i:Nat),i<(zaz S h).length->∃ k:Nat,(slt (zaz S h) i).pl=k/\k<S.length):=fun h i hi=>by
  obtain⟨r,k,j,_,_,_,e,hk,_⟩:=zbe wf (H:=h) (s:=slt (zaz S h) i) (by rw[zbN hi];exact List.getElem_mem hi);exact⟨k,e,hk⟩
 have FW:Hid (∀ h,(zaz S h).length<=24):=fun h=>zhz wf h;have ND:Hid (∀ h,((zaz S h).map Slt.pl).Nodup):=fun h=>zcT wf;clear hS wf;obtain⟨n,hn⟩:∃ n,S.length=n:=⟨_,rfl⟩;have HN:Hid (S.length=n):=hn;rw[hn] at hN c9 DS PL |-;clear hn
 have G0:Hid (zde ((w.alloc (.cells #[.slice a n c] 24)).alloc (.cells (madeCells #[.slice none 0 0] n) 29)) (w.heap.size+1) n (zcJ S 0)):=by
  refine⟨fun p hp=>⟨none,0,?_,(fun i hi=>absurd hi (yr _)),(fun b o s e=>by cases e)⟩,fun p=>?_⟩
  ·have:=zad (w.alloc (.cells #[.slice a n c] 24)) (madeCells #[.slice none 0 0] n) 29 p (v:=.slice none 0 0) (by simp[madeCells,hp,Nat.mod_one]);show World.cell? _ _=some (.slice none ([]:List Int).length 0);simpa using this
  ·go_simp
 go_enter Tryz.func130,Tryz.ntmps130
 go_wp2_with fail
 go_loopg [14] n (fun g s14 wr=>∃ h:Nat,h<=n/\n-h<=g/\s14=.int .i64 h/\Hid (Below w.heap.size w wr)/\wr.cell? ⟨w.heap.size,0,none⟩=some (.slice a n c)/\w.heap.size+1<wr.heap.size/\Hid (zde wr (w.heap.size+1) n (zcJ S h)))
 case atStart=>exact⟨0,by omega,by omega,rfl,zai _ _ _,by go_simp,by simp,G0⟩
 case round =>
  obtain⟨h,hh,hg,rfl,HB,cs,a8,HG⟩:=hrel;clear G0;by_cases c8:h<n
  ·have d6:(h:Int)<(n:Int):=by omega
   go_wp2_with fail
   refine yf (DS.out h c8 _ (HS.out.below HB.out)) ?_;rintro e w3 ⟨v,K,rfl,hb,hO⟩;obtain⟨qa,qc,hv,O⟩:=hO.far;subst hv;have M:Hid _:=O;have D:=zac cs hb;have f7:=hb.size;have b6:Hid (Below w.heap.size w w3):=HB.out.trans (hb.mono HB.out.size);have b8:Hid (zde w3 (w.heap.size+1) n (zcJ S h)):=HG.out.below a8 hb;have V:Hid _:=PL.out h;have fw:=FW.out h;have c6:Hid _:=ND.out h;have GA:Hid (zpO S h (zaz S h)=zcJ S (h+1)):=zpP S h;clear hb hO O cs HG;generalize zaz S h=L at *;obtain⟨m,hm⟩:∃ z,L.length=z:=⟨_,rfl⟩;have HM:Hid (L.length=m):=hm;rw[hm] at M V fw |-;clear hm
   go_wp2_with fail
   go_loopg [21] m (fun g s21 w2=>∃ i:Nat,i<=m/\m-i<=g/\s21=.int .i64 i/\Hid (Off (fun k=>k=w.heap.size+1) w3 w2)/\w2.cell? ⟨w.heap.size,0,none⟩=some (.slice a n c)/\w3.heap.size<=w2.heap.size/\Hid (zde w2 (w.heap.size+1) n (zpO S h (L.take i))))
   case atStart=>exact⟨0,by omega,by omega,rfl,Off.refl _ _,D,yi _,b8⟩
   case round =>
    obtain⟨i,hi,e9,rfl,U,Z,d9,I⟩:=hrel;clear D;by_cases F:i<m
    ·have d7:(i:Int)<(m:Int):=by omega
     obtain⟨b,ea,e8,f0,f1,ga,gc,f2,a6,A⟩:=M.out i F;obtain⟨pl,a4,a7⟩:=V.out i F;subst ea;rw[a4] at f0;have x0:=(U.out.cell (p:=⟨b,i*3,none⟩) (by exact ye _ _ f0) (by show ¬ b=_;omega)).trans f0;have x1:=(U.out.cell (p:=⟨b,i*3+1,none⟩) (by exact ye _ _ f1) (by show ¬ b=_;omega)).trans f1;have x2:=(U.out.cell (p:=⟨b,i*3+2,none⟩) (by exact ye _ _ f2) (by show ¬ b=_;omega)).trans f2;have d8:(pl:Int)<(n:Int):=by omega
     have b9:Hid (zaj wr ga (slt L i).gv):=fun j hj=>by
      obtain⟨b', o', e,hc⟩:=a6 j hj;have:=A b' o' none e;exact⟨b', o', e,(U.out.cell (by exact ye _ _ hc) (by show ¬ b' = _;omega)).trans hc⟩
     have b7:Hid (∀ b o s,ga=some ⟨b,o,s⟩->w.heap.size+1<b):=fun b o s e=>by have:=A b o s e;omega
     have EQ:Hid (∀ p,p<n->(if p=pl then (slt L i).gv else zpO S h (L.take i) p)=zpO S h (L.take (i+1)) p):=fun p hp=>by
      have a5:i<L.length:=by rw[HM.out];exact F
      rw[znT c6.out a5,<- zbN a5,a4];by_cases e:p=pl
      ·subst e;simp
      ·rw[ya e,ya (by omega)]
     obtain⟨e7,e0,c7,_⟩:=I.out.1 pl a7;have e6:=I.out.2 pl
     have b4:Hid (∀ o1:Obj,zde ((wr.setCell ⟨w.heap.size+1,pl,none⟩ (.slice ga (slt L i).gv.length gc)).alloc o1) (w.heap.size+1) n (zpO S h (L.take (i+1)))):=fun o1 =>
      ((I.out.set (gc:=gc) a7 b9.out b7.out).congr EQ.out).below (by simp[World.setCell];omega) (zab _ _)
     have D:∀ v,(wr.setCell ⟨w.heap.size+1,pl,none⟩ v).cell? ⟨w.heap.size,0,none⟩=some (.slice a n c):=fun v=>(yw (yo _ _ _ _ (by show w.heap.size≠w.heap.size+1;omega))).trans Z;have f6:w.heap.size+1<wr.heap.size:=by omega
     have a9:Hid _:=D;clear f0 f1 f2 a6 A D;generalize (slt L i).gv.length=gl at *;generalize (slt L i).num=nu at *
     go_wp2_with fail
     go_roundg (m-(i+1))
     case measure=>omega
     case rel=>exact⟨i+1,by omega,by omega,by go_num,(U.out.trans (zrM wr _ pl _)).trans (Off.of_below (zab _ _)),zac (a9.out _) (zab _ _),by simp[World.setCell];omega,b4.out _⟩
    ·have T:i=m:=by omega
     subst T
     have J:Hid (zde wr (w.heap.size+1) n (zcJ S (h+1))):=by
      have h1:=I.out;rw[List.take_of_length_le (by rw[HM.out];omega),GA.out] at h1;exact h1
     have b5:Hid (Below w.heap.size w wr):=b6.out.trans (U.out.below (by omega) (fun k hk=>by have:k=w.heap.size+1:=hk;omega))
     go_wp2_with fail
     go_roundg (n-(h+1))
     case measure=>omega
     case rel=>exact⟨h+1,by omega,by omega,by go_num,b5,Z,by omega,J⟩
  ·have T:h=n:=by omega
   subst T;have J:=HG;rw[<- HN.out] at J;clear HG
   go_wp2_with fail
   go_ret;exact⟨rfl,HB.out,a8,by rw[<- HN.out];exact J.out⟩
theorem zmR(a:Option Addr)(c:Nat)(S:List Nd)(I U p r:Nat)(ka:Option Addr)(kl kc:Nat)(w:World)(hN:S.length<=24)(hr:r<S.length)(M:zbw S p=r)(O:zae w a S)(J:w.cell? ⟨I,0,none⟩=some (.slice a S.length c))(A:∃ b o,a=some ⟨b,o,none⟩/\w.cell? ⟨b,o+r*8+5,none⟩=some (.slice ka kl kc)) :
  Calls Tryz.prog 131 #[.int .i64 (p:Int),.pointer (some ⟨I,0,none⟩),.pointer (some ⟨U,0,none⟩)] w fun e w' => e=.returned (.slice ka kl kc)/\Below w.heap.size w w' := by
 have d:=zcL a c S (p:Int) w (by omega) O;rw[M] at d;have D:Hid _:=d;obtain⟨b,o,rfl,A⟩:=A;have a4:(r:Int)<(S.length:Int):=by omega
 have a5:((r:Int) == -1)=false:=by simp
 have a6:decide ((r:Int) = -1)=false:=by simp
 clear d O M;generalize S.length=n at *
 go_enter Tryz.func131,Tryz.ntmps131
 go_wp2_with fail
 refine yf D.out ?_;rintro e w1 ⟨rfl,F⟩;have V:=zac J F;have Z:=zac A F;have T:Hid _:=F;clear F J A
 go_wp2_with fail
 go_ret;exact⟨rfl,T.out⟩
theorem zkB(a:Option Addr)(c:Nat)(S:List Nd)(I F U p:Nat)(ka:Option Addr)(kl kc:Nat)(w:World)(hN:S.length<=24)(hp:p<S.length)(T:zbw S p = -1)(V:zae w a S)(J:w.cell? ⟨I,0,none⟩=some (.slice a S.length c))(M:w.cell? ⟨F,0,none⟩=some (.slice (some ⟨U,0,none⟩) S.length S.length))(O:w.cell? ⟨U,p,none⟩=some (.slice ka kl kc))(hk:0<kl) :
  Calls Tryz.prog 131 #[.int .i64 (p:Int),.pointer (some ⟨I,0,none⟩),.pointer (some ⟨F,0,none⟩)] w fun e w' => e=.returned (.slice ka kl kc)/\Below w.heap.size w w' := by
 have d:=zcL a c S (p:Int) w (by omega) V;rw[T] at d;have D:Hid _:=d;have a8:(p:Int)<(S.length:Int):=by omega
 have a7:(0:Int)<(kl:Int):=by omega
 clear d V T;generalize S.length=n at *
 go_enter Tryz.func131,Tryz.ntmps131
 go_wp2_with fail
 refine yf D.out ?_;rintro e w1 ⟨rfl,A⟩;have a4:=zac J A;have a5:=zac M A;have a6:=zac O A;have Z:Hid _:=A;clear A J O M
 go_wp2_with fail
 go_ret;exact⟨rfl,Z.out⟩
theorem zmQ(a:Option Addr)(c:Nat)(S:List Nd)(J I V p:Nat)(ka ga:Option Addr)(kl kc gc:Nat)(w:World)(hN:S.length<=24)(hp:p<S.length)(U:zbw S p = -1)(Z:zae w a S)(M:w.cell? ⟨J,0,none⟩=some (.slice a S.length c))(O:w.cell? ⟨I,0,none⟩=some (.slice (some ⟨V,0,none⟩) S.length S.length))(T:w.cell? ⟨V,p,none⟩=some (.slice ga 0 gc))(F:∃ b o,a=some ⟨b,o,none⟩/\w.cell? ⟨b,o+p*8+5,none⟩=some (.slice ka kl kc)) :
  Calls Tryz.prog 131 #[.int .i64 (p:Int),.pointer (some ⟨J,0,none⟩),.pointer (some ⟨I,0,none⟩)] w fun e w' => e=.returned (.slice ka kl kc)/\Below w.heap.size w w' := by
 have d:=zcL a c S (p:Int) w (by omega) Z;rw[U] at d;have D:Hid _:=d;obtain⟨b,o,rfl,F⟩:=F;have a8:(p:Int)<(S.length:Int):=by omega
 clear d Z U;generalize S.length=n at *
 go_enter Tryz.func131,Tryz.ntmps131
 go_wp2_with fail
 refine yf D.out ?_;rintro e w1 ⟨rfl,A⟩;have a4:=zac M A;have a5:=zac O A;have a6:=zac T A;have a7:=zac F A;have HB:Hid _:=A;clear A M T O F
 go_wp2_with fail
 go_ret;exact⟨rfl,HB.out⟩
def zeg(S:List Nd)(k:Nat):List Int:=zbG (zbn S (zcJ S S.length)) (zsg S) k
theorem zpg(a:Option Addr)(c:Nat)(S:List Nd)(I F T:Nat)(w:World)(wf:WF S)(J:zae w a S)(U:w.cell? ⟨I,0,none⟩=some (.slice a S.length c))(cg:w.cell? ⟨F,0,none⟩=some (.slice (some ⟨T,0,none⟩) S.length S.length))(hG:zde w T S.length (zcJ S S.length))(p:Nat)(M:p<S.length) :
  ∃ ka kc,(zbn S (zcJ S S.length) p).length<=9223372036854775807/\(∀ A,Below w.heap.size w A->zaj A ka (zbn S (zcJ S S.length) p))/\∀ A,Below w.heap.size w A->Calls Tryz.prog 131 (#[.int .i64 (p:Int)] ++ #[.pointer (some ⟨I,0,none⟩),.pointer (some ⟨F,0,none⟩)]) A fun e w2=>e=.returned (.slice ka (zbn S (zcJ S S.length) p).length kc)/\Below A.heap.size A w2:=by
 have hN:=wf.small;unfold zbn;by_cases hr:zbw S p = -1
 ·rw[ya (by simpa using hr)];obtain⟨ga,gc,Z,g2,_⟩:=hG.1 p M;by_cases hg:zcJ S S.length p=[]
  ·rw[ya (by simpa using hg)];rw[hg] at Z;obtain⟨b,o,V,_,_,_,_,_,⟨ka,kc,c5,D⟩,_⟩:=J p M;exact⟨ka,kc,by have:=wf.kids_small M;omega,fun A h1=>D.below h1,fun A h1=>zmQ a c S I F T p ka ga _ kc gc A hN M hr (J.below h1) (zac U h1) (zac cg h1) (zac Z h1) ⟨b,o,V,zac c5 h1⟩⟩
  ·rw[yd (by simpa using hg)];have O:0<(zcJ S S.length p).length:=List.length_pos_iff.2 hg;exact⟨ga,gc,by have:=(znW wf (yi S.length) (p:=p)).1;omega,fun A h1=>g2.below h1,fun A h1=>zkB a c S I F T p ga _ gc A hN M hr (J.below h1) (zac U h1) (zac cg h1) (zac Z h1) O⟩
 ·rw[yd (by simpa using hr)];obtain⟨r,h1,h2,_⟩:=zbM S p hr;rw[h2,yg];obtain⟨b,o,V,_,_,_,_,_,⟨ka,kc,c5,D⟩,_⟩:=J r h1;exact⟨ka,kc,by have:=wf.kids_small h1;omega,fun A h1=>D.below h1,fun A hb=>zmR a c S I F p r ka _ kc A hN h1 h2 (J.below hb) (zac U hb) ⟨b,o,V,zac c5 hb⟩⟩
theorem zpL(a:Option Addr)(c:Nat)(S:List Nd)(p u E:Int)(w:World)(U:S.length<=9223372036854775807)(I:Big S)(M:zae w a S)(J:zas S p u=E)(A:E≠0) :
  Calls Tryz.prog 110 #[.agg #[.slice a S.length c],.agg #[.int .i64 p,.int .i64 u]] w fun e w' => e=.returned (.tuple #[.slice none 0 0,.int .i64 E])/\Below w.heap.size w w' := by
 have D:Hid (∀ W,zae W a S->Calls _ _ _ _ _):=fun W V=>zge a c S p u E W U I V J A;have T:Hid (zae w a S):=M;have e1:(E == 0)=false:=beq_eq_false_iff_ne.2 A;have e2:decide (E=0)=false:=decide_eq_false A;clear M J I;generalize S.length=n at *
 go_enter Tryz.func110,Tryz.ntmps110
 go_wp2_with fail
 refine yf (D.out _ (T.out.below (zai _ _ _))) ?_;rintro e Z ⟨rfl,O⟩;have F:Hid (Below w.heap.size w Z):=(zai w _ _).trans (O.mono (by simp;omega));clear O
 go_wp2_with fail
 exact yq (v:=.tuple #[.slice none 0 0,.int .i64 E]) (by simp[results,Tryz.results110,go_sem]) rfl ⟨rfl,F.out.trans ((zab _ _).mono F.out.size)⟩
theorem zkZ{S:List Nd}(wf:WF S){k:Nat}(w:k<S.length):(zeg S k).length<=S.length:=zoA wf (znV wf) w (zsg S)
theorem zpn(a:Option Addr)(c:Nat)(S:List Nd)(k D A I:Nat)(w:World)(wf:WF S)(J:k<S.length)(Z:zae w a S)(M:w.cell? ⟨D,0,none⟩=some (.slice a S.length c))(O:w.cell? ⟨A,0,none⟩=some (.slice (some ⟨I,0,none⟩) S.length S.length))(V:zde w I S.length (zcJ S S.length)) :
  Calls Tryz.prog 132 #[.int .i64 (k:Int),.func (.func 131) #[] #[.pointer (some ⟨D,0,none⟩),.pointer (some ⟨A,0,none⟩)]] w fun e w' => ∃ F cap,e=.returned (.slice F (zeg S k).length cap)/\Below w.heap.size w w' /\ zaj w' F (zeg S k):=by
 have hN:=wf.small;have hl:=zkZ wf J;unfold zeg at hl |-;refine(zlC (zbn S (zcJ S S.length)) S.length 131 #[.pointer (some ⟨D,0,none⟩),.pointer (some ⟨A,0,none⟩)] k (zsg S) w (enters_of Tryz.func131 (by kernel_rfl) rfl) (fun p hp=>zpg a c S D A I w wf Z M O V p hp) J (zfd wf (znV wf) J) (by omega)).mono fun e w' ⟨F,cap,h1,T,U,_⟩=>⟨F,cap,h1,T,U⟩
theorem zrz(a:Option Addr)(c:Nat)(S:List Nd)(k:Nat)(u:Int)(w:World)(wf:WF S)(hS:zae w a S)(hk:k<S.length)(hE:zas S k u=0) :
  Calls Tryz.prog 110 #[.agg #[.slice a S.length c],.agg #[.int .i64 (k:Int),.int .i64 u]] w fun e w' => ∃ V cap,e=.returned (.tuple #[.slice V (zeg S k).length cap,.int .i64 0])/\Below w.heap.size w w' /\ zaj w' V (zeg S k):=by
 have hN:=wf.small;have D:Hid (∀ W,zae W a S->Calls _ _ _ _ _):=fun W hW=>find_ok a c S k u W (by omega) wf.big hW hk hE (by have:=wf.kids_small hk;omega);have DG:Hid (∀ W,zae W a S->Calls _ _ _ _ _):=fun W hW=>zrB a c S W wf hW;have Z:Hid (∀ bs bg M W,zae W a S->World.cell? W ⟨bs,0,none⟩=some (.slice a S.length c)->World.cell? W ⟨bg,0,none⟩=some (.slice (some ⟨M,0,none⟩) S.length S.length)->zde W M S.length (zcJ S S.length)->Calls _ _ _ _ _):=fun bs bg M W h1 h2 h3 h4=>zpn a c S k bs bg M W wf hk h1 h2 h3 h4;have HS:Hid (zae w a S):=hS;clear hS hE wf;generalize zeg S k=F at *;generalize nd S k=x at *;obtain⟨xu,xn,xt,xm,xp,a5,xh,xc⟩:=x;generalize zcJ S S.length=G at *;generalize S.length=n at *;dsimp only at D;obtain⟨fl,O⟩:∃ z,F.length=z:=⟨_,rfl⟩;rw[O] at Z |-;obtain⟨xl,U⟩:∃ z,a5.length=z:=⟨_,rfl⟩;rw[U] at D;clear O U
 go_enter Tryz.func110,Tryz.ntmps110
 go_wp2_with fail
 refine yf (D.out _ (HS.out.below (zai _ _ _))) ?_;rintro e w1 ⟨g,rfl,A,_⟩;have l0:=zac (zaH w #[.slice a n c] 24 0 (.cells #[.int .i64 (k:Int),.int .i64 u] 39) rfl) A;have l1:=zac (zaI w #[.int .i64 (k:Int),.int .i64 u] 39 0 (.cells #[.slice a n c] 24) rfl) A;have q0:=ye _ _ l0;have q1:=ye _ _ l1;have J:Hid (Below w.heap.size w w1):=(zai w _ _).trans (A.mono (by simp;omega));clear A D
 go_wp2_with fail
 refine yf (DG.out _ (HS.out.below (J.out.trans ((zab _ _).mono J.out.size)))) ?_;rintro e w2 ⟨rfl,A,T,hG⟩;have m0:=zac (zac l0 (zab _ _)) A;have m1:=zac (zac l1 (zab _ _)) A;have r0:=ye _ _ m0;have r1:=ye _ _ m1;have I:Hid (Below w.heap.size w w2):=(J.out.trans ((zab _ _).mono J.out.size)).trans (A.mono (by have:=J.out.size;simp;omega));have HG:Hid (zde w2 _ n G):=hG;clear A l0 l1 q0 q1 DG hG;simp only[yk] at HG T |-;generalize w1.heap.size+1+1=M at *
 go_wp2_with fail
 refine yf (Z.out _ _ _ _ (HS.out.below (I.out.trans ((zab _ _).mono I.out.size))) (zac m0 (zab _ _)) (zad w2 _ _ 0 rfl) (zde.below HG.out T (zab _ _))) ?_;rintro e w3 ⟨V,cap,rfl,A,hI⟩;have a4:Hid (Below w.heap.size w w3):=(I.out.trans ((zab _ _).mono I.out.size)).trans (A.mono (by have:=I.out.size;simp;omega));have HI:Hid _:=hI;clear A hI Z HG m0 m1
 go_wp2_with fail
 exact yq (v:=.tuple #[.slice V fl cap,.int .i64 0]) (by simp[results,Tryz.results110,go_sem]) rfl ⟨V,cap,rfl,a4.out,HI.out⟩
theorem Own.nil8{w:World}{B g:Nat}{S:List Nd}{kb kc:Nat->Nat}{k:Nat}(h:Own w B g S kb kc S.length)(hk:k<S.length)(x:Nd)(hx:x.ks=[])(w3:World)
  (J:∀ b,g<=b->b<w.heap.size->w3.heap[b]?=((((((((w.setCell ⟨g,k*8,none⟩ (.bool x.u)).setCell ⟨g,k*8+1,none⟩ (.int .i64 x.n)).setCell ⟨g,k*8+2,none⟩ (.int .i64 x.t)).setCell ⟨g,k*8+3,none⟩ (.int .i64 x.m)).setCell ⟨g,k*8+4,none⟩ (.int .i64 x.p)).setCell ⟨g,k*8+5,none⟩ (.slice none 0 0)).setCell ⟨g,k*8+6,none⟩ (.int .i64 x.h)).setCell ⟨g,k*8+7,none⟩ (.bool x.c)).heap[b]?) :
  zae w3 (some ⟨g,0,none⟩) (S.set k x):=fun i O=>by
 obtain⟨_,F,U,hN,hg,_⟩:=h;rw[List.length_set] at O;have D:=(zlx U (k*8) (.bool x.u) (.int .i64 x.n) (.int .i64 x.t) (.int .i64 x.m) (.int .i64 x.p) (.slice none 0 0) (.int .i64 x.h) (.bool x.c)).of_block (J g (yi _) U.lt);refine⟨g,0,rfl,?_⟩;rw[yv,zay S k i x hk];by_cases e:i=k
 ·subst e;rw[yd rfl];refine⟨?_,?_,?_,?_,?_,⟨none,0,?_,fun j T=>absurd T (by rw[hx];exact yr _)⟩,?_,?_⟩
  ·rw[D.cell (by omega)];unfold zmA;rw[ya (by omega),ya (by omega),ya (by omega),ya (by omega),ya (by omega),ya (by omega),ya (by omega),yd rfl]
  ·rw[D.cell (by omega)];unfold zmA;rw[ya (by omega),ya (by omega),ya (by omega),ya (by omega),ya (by omega),ya (by omega),yd rfl]
  ·rw[D.cell (by omega)];unfold zmA;rw[ya (by omega),ya (by omega),ya (by omega),ya (by omega),ya (by omega),yd rfl]
  ·rw[D.cell (by omega)];unfold zmA;rw[ya (by omega),ya (by omega),ya (by omega),ya (by omega),yd rfl]
  ·rw[D.cell (by omega)];unfold zmA;rw[ya (by omega),ya (by omega),ya (by omega),yd rfl]
  ·rw[D.cell (by omega),hx];unfold zmA;rw[ya (by omega),ya (by omega),yd rfl];rfl
  ·rw[D.cell (by omega)];unfold zmA;rw[ya (by omega),yd rfl]
  ·rw[D.cell (by omega)];unfold zmA;rw[yd rfl]
 ·rw[ya e];have M:=hg i O;obtain⟨V,e1,e2,e3,e4,e5,Z,e7,e8,a4,G,I,e9⟩:=hN i O;have A:kb i≠g:=by omega
  have hG:=I.of_block (w' := w3) ((J (kb i) (Nat.le_of_lt M) I.lt).trans (by
   rw[yo _ _ _ _ A,yo _ _ _ _ A,yo _ _ _ _ A,yo _ _ _ _ A,yo _ _ _ _ A,yo _ _ _ _ A,yo _ _ _ _ A,yo _ _ _ _ A]))
  refine⟨?_,?_,?_,?_,?_,⟨some ⟨kb i,0,none⟩,kc i,?_,fun j T=>⟨kb i,0,rfl,?_⟩⟩,?_,?_⟩
  ·rw[D.cell (by omega),put8_other (by omega),V]
  ·rw[D.cell (by omega),put8_other (by omega),e1]
  ·rw[D.cell (by omega),put8_other (by omega),e2]
  ·rw[D.cell (by omega),put8_other (by omega),e3]
  ·rw[D.cell (by omega),put8_other (by omega),e4]
  ·rw[D.cell (by omega),put8_other (by omega),e5]
  ·rw[yv,hG.cell (by omega),e9 j T]
  ·rw[D.cell (by omega),put8_other (by omega),Z]
  ·rw[D.cell (by omega),put8_other (by omega),e7]
theorem zcb{w A:World}{v:Value}{x y:Int}(D:Below (w.heap.size+1+1+1) (((w.alloc (.cells #[v] 24)).alloc (.cells #[.int .i64 x,.int .i64 y] 39)).alloc (.cells #[.slice none 0 0] 24)) A) :
  A.cell? ⟨w.heap.size,0,none⟩=some v/\A.cell? ⟨w.heap.size+1,0,none⟩=some (.int .i64 x)/\A.cell? ⟨w.heap.size+1,1,none⟩=some (.int .i64 y)/\A.cell? ⟨w.heap.size+1+1,0,none⟩=some (.slice none 0 0)/\A.frozen? ⟨w.heap.size+1+1,0,none⟩=false :=
 ⟨(D.cell (by simp;omega)).trans (by go_simp),(D.cell (by simp)).trans (by go_simp),(D.cell (by simp)).trans (by go_simp),(D.cell (by simp)).trans (by go_simp),(D.frozen (by simp)).trans (by go_simp)⟩
theorem zdI{B:Nat}{W A w2:World}{a0 a1 a2 a3 F I J M:Value}(D:Below B W A)(hs:B<=A.heap.size)(w:Below (A.heap.size+1) (A.alloc (.cells #[a0,a1,a2,a3,F,I,J,M] 47)) w2) :
  Below B W w2/\w2.cell? ⟨A.heap.size,0,none⟩=some a0/\w2.cell? ⟨A.heap.size,1,none⟩=some a1/\w2.cell? ⟨A.heap.size,2,none⟩=some a2/\w2.cell? ⟨A.heap.size,3,none⟩=some a3/\w2.cell? ⟨A.heap.size,4,none⟩=some F/\w2.cell? ⟨A.heap.size,5,none⟩=some I/\w2.cell? ⟨A.heap.size,6,none⟩=some J/\w2.cell? ⟨A.heap.size,7,none⟩=some M :=
 ⟨(D.alloc hs _).trans (w.mono (by omega)),(w.cell (by simp)).trans (by go_simp),(w.cell (by simp)).trans (by go_simp),(w.cell (by simp)).trans (by go_simp),(w.cell (by simp)).trans (by go_simp),(w.cell (by simp)).trans (by go_simp),(w.cell (by simp)).trans (by go_simp),(w.cell (by simp)).trans (by go_simp),(w.cell (by simp)).trans (by go_simp)⟩
theorem zpN(a:Option Addr)(c:Nat)(S:List Nd)(p u E:Int)(w:World)(T:S.length<=9223372036854775807)(M:Big S)(U:zae w a S)(O:zas S p u=E)(F:E≠0) :
  Calls Tryz.prog 57 #[.agg #[.slice a S.length c],.agg #[.int .i64 p,.int .i64 u]] w fun e w' => e=.returned (.tuple #[.agg #[.slice none 0 0],.int .i64 E])/\Below w.heap.size w w' := by
 have V:Hid (∀ W,zae W a S->Calls _ _ _ _ _):=fun W hW=>zge a c S p u E W T M hW O F;have Z:Hid (zae w a S):=U;have hz:(E == 0)=false:=by simp[F]
 clear U O M T;generalize S.length=n at *
 go_enter Tryz.func57,Tryz.ntmps57
 go_wp2_with (go_at_call 10;refine(V.out _ (Z.out.below (zal _ _ _ _))).mono ?_;rintro e I ⟨rfl,A⟩;simp only[yk] at A;obtain⟨l0,l1,l2,l3,z3⟩:=zcb A;have J:=A.size;simp only[yk] at J;have q0:w.heap.size<I.heap.size:=(by omega);have q1:w.heap.size+1<I.heap.size:=(by omega);have q2:w.heap.size+1+1<I.heap.size:=(by omega))
 refine yq (v:=.tuple #[.agg #[.slice none 0 0],.int .i64 E]) (by simp only[results,Tryz.results57];go_simp) rfl ⟨rfl,?_⟩;have D:Below w.heap.size w I:=(zal _ _ _ _).trans (A.mono (by omega))
 first|exact(D.setCell (by simp;omega) _).alloc (by simp;omega) _|exact(D.alloc (by omega) _).setCell (by simp;omega) _|exact D.setCell (by simp;omega) _
theorem znS(a:Option Addr)(c:Nat)(S:List Nd)(k:Nat)(u:Int)(w:World)(hN:S.length<=9223372036854775807)(hB:Big S)(hS:zae w a S)(hk:k<S.length)(hF:zas S k u=0)(hK:(nd S k).ks.length<=1000000)(hT:¬ zdS S k) :
  Calls Tryz.prog 57 #[.agg #[.slice a S.length c],.agg #[.int .i64 k,.int .i64 u]] w fun e w' => e=.returned (.tuple #[.agg #[.slice none 0 0],.int .i64 6])/\Below w.heap.size w w' := by
 have D1:Hid (∀ W,zae W a S->Calls _ _ _ _ _):=fun W hW=>find_ok a c S k u W (by omega) hB hW hk hF hK;obtain⟨r,hr⟩:∃ r,zah (nd S k)=r:=⟨_,rfl⟩;obtain⟨a9,a8⟩:∃ b,zdq S k=b:=⟨_,rfl⟩;have d2:=fun(v:Value) W=>zdj (nd S k) v W;rw[show (if (nd S k).h = -1 then (nd S k).p else (nd S k).h)=r from hr] at d2;have D2:Hid _:=d2;have d3:=fun W hW=>zdr a c S (k:Int) W (by omega) hW (by omega);rw[a8] at d3;have D3:Hid _:=d3;have HS:Hid (zae w a S):=hS
 have b4:r≠-1\/(r = -1/\(nd S k).ks.length≠0)\/(r = -1/\(nd S k).ks.length=0/\a9=true):=by
  unfold zdS at hT;rw[hr,a8] at hT;by_cases h1:r = -1
  ·by_cases h2:(nd S k).ks=[]
   ·refine Or.inr (Or.inr ⟨h1,by rw[h2];rfl,?_⟩)
    cases a9 with
    | true=>rfl
    | false=>exact absurd ⟨h1,h2,rfl⟩ hT
   ·refine Or.inr (Or.inl ⟨h1,fun h=>h2 (List.length_eq_zero_iff.1 h)⟩)
  ·exact Or.inl h1
 clear hS d2 d3 hF hB hT hr a8;generalize nd S k=x at *;obtain⟨xu,xn,xt,xm,xp,b5,xh,xc⟩:=x;dsimp only at *;generalize b5.length=L at *;generalize S.length=n at *;rcases b4 with h1 |⟨rfl,h2⟩ |⟨rfl,rfl,rfl⟩
 ·have hz:(r == -1)=false:=by simp[h1]
  go_enter Tryz.func57,Tryz.ntmps57
  go_wp2_with (go_at_call 10;refine(D1.out _ (HS.out.below (zal _ _ _ _))).mono ?_;rintro e M ⟨kg,rfl,A,U⟩;clear U;simp only[yk] at A;obtain⟨V,Z,l2,l3,z3⟩:=zcb A;have J:=A.size;simp only[yk] at J;have q0:w.heap.size<M.heap.size:=(by omega);have q1:w.heap.size+1<M.heap.size:=(by omega);have q2:w.heap.size+1+1<M.heap.size:=(by omega))
  refine(D2.out _ _).mono ?_;rintro e w2 ⟨rfl,F⟩;simp only[yk] at F;obtain⟨D,n0,n1,n2,n3,n4,n5,n6,n7⟩:=zdI A J F;have hs2:=F.size;simp only[yk] at hs2;clear V Z l2 l3 z3;obtain⟨V,Z,l2,l3,z3⟩:=zcb D;have I:Hid (Below w.heap.size w w2):=(zal _ _ _ _).trans (D.mono (by omega));have a7:Hid _:=A;have a4:Hid _:=F;have q3:M.heap.size<w2.heap.size:=by omega
  clear A F D
  go_wp2
  refine yq (v:=.tuple #[.agg #[.slice none 0 0],.int .i64 6]) (by simp only[results,Tryz.results57];go_simp) rfl ⟨rfl,?_⟩
  first|exact I.out.setCell (by simp;omega) _|exact(I.out.setCell (by simp;omega) _).drew|exact(I.out.alloc (by simp;omega) _).setCell (by simp;omega) _|exact(I.out.setCell (by simp;omega) _).alloc (by simp;omega) _
 ·have hz:decide ((0:Int)<(L:Int))=true:=decide_eq_true (by omega);have b8:(0:Int)<(L:Int):=by omega
  go_enter Tryz.func57,Tryz.ntmps57
  go_wp2_with (go_at_call 10;refine(D1.out _ (HS.out.below (zal _ _ _ _))).mono ?_;rintro e M ⟨kg,rfl,A,U⟩;clear U;simp only[yk] at A;obtain⟨V,Z,l2,l3,z3⟩:=zcb A;have J:=A.size;simp only[yk] at J;have q0:w.heap.size<M.heap.size:=(by omega);have q1:w.heap.size+1<M.heap.size:=(by omega);have q2:w.heap.size+1+1<M.heap.size:=(by omega))
  refine(D2.out _ _).mono ?_;rintro e w2 ⟨rfl,F⟩;simp only[yk] at F;obtain⟨D,n0,n1,n2,n3,n4,n5,n6,n7⟩:=zdI A J F;have hs2:=F.size;simp only[yk] at hs2;clear V Z l2 l3 z3;obtain⟨V,Z,l2,l3,z3⟩:=zcb D;have I:Hid (Below w.heap.size w w2):=(zal _ _ _ _).trans (D.mono (by omega));have a7:Hid _:=A;have a4:Hid _:=F;have q3:M.heap.size<w2.heap.size:=by omega
  clear A F D
  go_wp2
  refine yq (v:=.tuple #[.agg #[.slice none 0 0],.int .i64 6]) (by simp only[results,Tryz.results57];go_simp) rfl ⟨rfl,?_⟩
  first|exact I.out.setCell (by simp;omega) _|exact(I.out.setCell (by simp;omega) _).drew|exact(I.out.alloc (by simp;omega) _).setCell (by simp;omega) _|exact(I.out.setCell (by simp;omega) _).alloc (by simp;omega) _
 ·go_enter Tryz.func57,Tryz.ntmps57
  go_wp2_with (go_at_call 10;refine(D1.out _ (HS.out.below (zal _ _ _ _))).mono ?_;rintro e M ⟨kg,rfl,A,U⟩;clear U;simp only[yk] at A;obtain⟨V,Z,l2,l3,z3⟩:=zcb A;have J:=A.size;simp only[yk] at J;have q0:w.heap.size<M.heap.size:=(by omega);have q1:w.heap.size+1<M.heap.size:=(by omega);have q2:w.heap.size+1+1<M.heap.size:=(by omega))
  refine(D2.out _ _).mono ?_;rintro e w2 ⟨rfl,F⟩;simp only[yk] at F;obtain⟨D,n0,n1,n2,n3,n4,n5,n6,n7⟩:=zdI A J F;have hs2:=F.size;simp only[yk] at hs2;clear V Z l2 l3 z3;obtain⟨V,Z,l2,l3,z3⟩:=zcb D;have I:Hid (Below w.heap.size w w2):=(zal _ _ _ _).trans (D.mono (by omega));have a7:Hid _:=A;have a4:Hid _:=F;have q3:M.heap.size<w2.heap.size:=by omega
  clear A F D
  go_wp2_with fail
  refine(D3.out _ (HS.out.below I.out)).mono ?_;rintro e w3 ⟨rfl,a5⟩;have b7:=a5.size;have O:Hid (Below w.heap.size w w3):=I.out.trans (a5.mono (by have:=I.out.size;omega));have T:=a4.out.trans (a5.mono hs2);clear V Z l2 l3 z3 n0 n1 n2 n3 n4 n5 n6 n7 a5 a4;obtain⟨a6,n0,n1,n2,n3,n4,n5,n6,n7⟩:=zdI a7.out J T;obtain⟨V,Z,l2,l3,z3⟩:=zcb a6;have r1:M.heap.size<w3.heap.size:=by omega
  have r2:w.heap.size<w3.heap.size:=by omega
  have r3:w.heap.size+1<w3.heap.size:=by omega
  have r4:w.heap.size+1+1<w3.heap.size:=by omega
  have b6:Hid _:=T;clear a6 T
  go_wp2
  refine yq (v:=.tuple #[.agg #[.slice none 0 0],.int .i64 6]) (by simp only[results,Tryz.results57];go_simp) rfl ⟨rfl,?_⟩
  first|exact O.out.setCell (by simp;omega) _|exact(O.out.setCell (by simp;omega) _).drew|exact(O.out.alloc (by simp;omega) _).setCell (by simp;omega) _|exact(O.out.setCell (by simp;omega) _).alloc (by simp;omega) _
theorem zdD{w A:World}{a:Option Addr}{n c:Nat}{p u:Int}(D:Below (w.heap.size+1+1+1+1) ((((w.alloc (.cells #[.slice a n c] 24)).alloc (.cells #[.int .i64 p,.int .i64 u] 39)).alloc (.cells #[.slice none 0 0] 24)).alloc (.cells #[.int .i64 0,.int .i64 0] 39)) A) :
  A.cell? ⟨w.heap.size,0,none⟩=some (.slice a n c)/\A.cell? ⟨w.heap.size+1,0,none⟩=some (.int .i64 p)/\A.cell? ⟨w.heap.size+1,1,none⟩=some (.int .i64 u)/\A.cell? ⟨w.heap.size+1+1,0,none⟩=some (.slice none 0 0)/\A.cell? ⟨w.heap.size+1+1+1,0,none⟩=some (.int .i64 0)/\A.cell? ⟨w.heap.size+1+1+1,1,none⟩=some (.int .i64 0)/\(∀ o,A.frozen? ⟨w.heap.size+1+1,o,none⟩=false)/\(∀ o,A.frozen? ⟨w.heap.size+1+1+1,o,none⟩=false):=by
 refine⟨?_,?_,?_,?_,?_,?_,fun o=>?_,fun o=>?_⟩
 all_goals first|exact(D.cell (by first|(simp;done)|(simp;omega))).trans (by go_simp)|exact(D.frozen (by first|(simp;done)|(simp;omega))).trans (by go_simp)
theorem znu(a:Option Addr)(c:Nat)(S:List Nd)(k f:Nat)(u:Int)(cl:Bool)(w:World)(wf:WF S)(hS:zae w a S)(hk:k<S.length)(hE:zas S k u=0)(hH:zdq S k=false)(hf:f<S.length)(b4:zbO (nd S f)=true)(T:∀ i,i<f->zbO (nd S i)=false) :
  Calls Tryz.prog 113 #[.agg #[.slice a S.length c],.agg #[.int .i64 (k:Int),.int .i64 u],.bool cl] w fun e w' => ∃ g,e=.returned (.tuple #[.agg #[.slice (some ⟨g,0,none⟩) S.length S.length],.agg #[.int .i64 (f:Int),.int .i64 ((nd S f).n+1)],.int .i64 0])/\Below w.heap.size w w' /\ w.heap.size<=g/\zjE w' g (S.set f (zbI (nd S f) k cl)):=by
 have hN:=wf.small;have D0:Hid (∀ W,zae W a S->Calls _ _ _ _ _):=fun W hW=>find_ok a c S k u W (by omega) wf.big hW hk hE (by have:=wf.kids_small hk;omega);have d1:=fun W hW=>zdr a c S (k:Int) W (by omega) hW (by omega);rw[hH] at d1;have D1:Hid _:=d1;have D2:Hid (∀ W,zae W a S->Calls _ _ _ _ _):=fun W hW=>zlg a c S 0 W hN (fun i hi=>by have:=wf.kids_small hi;omega) hW ((zdy _).2 wf) (by omega) (by omega) f hf b4 (wf.uses hf).1 T;have HS:Hid (zae w a S):=hS
 have RT:Hid (∀ W g,zjE W g (S.set f (zbq (nd S f) 0))->zjE ((W.setCell ⟨g,f*8+6,none⟩ (.int .i64 (k:Int))).setCell ⟨g,f*8+7,none⟩ (.bool cl)) g (S.set f (zbI (nd S f) k cl))):=fun W g h=>by
  have h2:=h.root (k:=f) (by simpa using hf) (k:Int) cl;rw[zay S f f _ hf,yd rfl,List.set_set] at h2;exact h2
 have RC:Hid (∀ W g,zjE W g (S.set f (zbq (nd S f) 0))->g<W.heap.size/\(∀ o,W.frozen? ⟨g,o,none⟩=false)/\(∃ v6 v7,W.cell? ⟨g,f*8+6,none⟩=some v6/\W.cell? ⟨g,f*8+7,none⟩=some v7)):=fun W g ⟨F,hF,_⟩=>by
  rw[List.length_set] at hF;exact⟨hF.lt,hF.frozen,_,_,hF.cell (by omega),hF.cell (by omega)⟩
 have b9:(f:Int)<(S.length:Int):=by omega
 have c6:decide ((f:Int)<0)=false:=decide_eq_false (by omega);clear hS wf hE hH b4 T d1;obtain⟨x0,b5⟩:∃ x,nd S k=x:=⟨_,rfl⟩;rw[b5] at D0;clear b5;obtain⟨S1,a8⟩:∃ S1,S.set f (zbq (nd S f) 0)=S1:=⟨_,rfl⟩;obtain⟨S2,a9⟩:∃ S2,S.set f (zbI (nd S f) k cl)=S2:=⟨_,rfl⟩;rw[a8] at D2 RT RC;rw[a9] at RT |-;clear a8 a9;generalize (nd S f).n=nf at *;generalize S.length=n at *
 go_enter Tryz.func113,Tryz.ntmps113
 go_wp2_with fail
 refine yf (D0.out _ (HS.out.below (zaq _ _ _ _ _))) ?_;rintro e w2 ⟨fg,rfl,J,_⟩;simp only[yk] at J;have a5:Hid (Below (w.heap.size+1+1+1+1) ((((w.alloc (.cells #[.slice a n c] 24)).alloc (.cells #[.int .i64 (k:Int),.int .i64 u] 39)).alloc (.cells #[.slice none 0 0] 24)).alloc (.cells #[.int .i64 0,.int .i64 0] 39)) w2):=J;have hs2:=J.size;simp only[yk] at hs2;obtain⟨l0,l1,l2,l3,l4,l5,l6,l7⟩:=zdD J;have BW:Hid (∀ W,Below (w.heap.size+1+1+1+1) ((((w.alloc (.cells #[.slice a n c] 24)).alloc (.cells #[.int .i64 (k:Int),.int .i64 u] 39)).alloc (.cells #[.slice none 0 0] 24)).alloc (.cells #[.int .i64 0,.int .i64 0] 39)) W->Below w.heap.size w W):=fun W h=>(zaq _ _ _ _ _).trans (h.mono (by omega));clear J;have q0:w.heap.size<w2.heap.size:=by omega
 have q1:w.heap.size+1<w2.heap.size:=by omega
 go_wp2_with fail
 refine yf (D1.out _ (HS.out.below (BW.out _ (a5.out.alloc (by omega) _)))) ?_;rintro e w3 ⟨rfl,M⟩;simp only[yk] at M;have U:Hid (Below (w.heap.size+1+1+1+1) ((((w.alloc (.cells #[.slice a n c] 24)).alloc (.cells #[.int .i64 (k:Int),.int .i64 u] 39)).alloc (.cells #[.slice none 0 0] 24)).alloc (.cells #[.int .i64 0,.int .i64 0] 39)) w3):=(a5.out.alloc (by omega) _).trans (M.mono (by omega));have b8:=M.size;simp only[yk] at b8;clear M l0 l1 l2 l3 l4 l5 l6 l7;obtain⟨l0,l1,l2,l3,l4,l5,l6,l7⟩:=zdD U.out
 go_wp2_with fail
 refine yf (D2.out _ (HS.out.below (BW.out _ U.out))) ?_;rintro e I ⟨g,rfl,a4,c7,Z⟩;have V:Hid (Below (w.heap.size+1+1+1+1) ((((w.alloc (.cells #[.slice a n c] 24)).alloc (.cells #[.int .i64 (k:Int),.int .i64 u] 39)).alloc (.cells #[.slice none 0 0] 24)).alloc (.cells #[.int .i64 0,.int .i64 0] 39)) I):=U.out.trans (a4.mono (by omega));have c9:=a4.size;clear a4 l0 l1 l2 l3 l4 l5 l6 l7;obtain⟨l0,l1,l2,l3,l4,l5,l6,l7⟩:=zdD V.out;obtain⟨c8,b7,v6,v7,d6,d7⟩:=RC.out _ _ Z;have a7:Hid (zjE I g S1):=Z;have e1:¬ g=w.heap.size+1:=by omega
 have e2:¬ w.heap.size+1=g:=by omega
 have e3:¬ g=w.heap.size+1+1:=by omega
 have e4:¬ w.heap.size+1+1=g:=by omega
 have e5:¬ g=w.heap.size+1+1+1:=by omega
 have e6:¬ w.heap.size+1+1+1=g:=by omega
 have q2:w.heap.size+1<I.heap.size:=by omega
 have q3:w.heap.size+1+1<I.heap.size:=by omega
 have q4:w.heap.size+1+1+1<I.heap.size:=by omega
 have q5:w.heap.size<I.heap.size:=by omega
 clear Z D0 D1 D2
 go_wp2_with fail
 first
  |(obtain⟨D,A⟩:∃ D,D=((((I.setCell ⟨g,f*8+6,none⟩ (.int .i64 (k:Int))).setCell ⟨g,f*8+7,none⟩ (.bool cl)).alloc (.cells #[.slice (some ⟨g,0,none⟩) n n] 24)).alloc (.cells #[.int .i64 (f:Int),.int .i64 (nf+1)] 39)):=⟨_,rfl⟩;rw[<- A])
  |(obtain⟨D,A⟩:∃ D,D=((((I.alloc (.cells #[.slice (some ⟨g,0,none⟩) n n] 24)).alloc (.cells #[.int .i64 (f:Int),.int .i64 (nf+1)] 39)).setCell ⟨g,f*8+6,none⟩ (.int .i64 (k:Int))).setCell ⟨g,f*8+7,none⟩ (.bool cl)):=⟨_,rfl⟩;rw[<- A])
 have b6:Hid (zjE D g S2):=by
  rw[A]
  first
   | exact(RT.out I g a7.out).up (fun b _ O=>(((yj _ _).alloc (yi _) _).alloc (by simp) _).block b O)
   | exact RT.out _ g (a7.out.up (fun b _ O=>(((yj _ _).alloc (yi _) _).alloc (by simp) _).block b O))
 have d8:D.heap.size=I.heap.size+1+1:=by rw[A];simp
 have a6:Hid (Below w.heap.size w D):=by
  rw[A]
  first
   | exact((((BW.out _ V.out).setCell (by simp;omega) _).setCell (by simp;omega) _).alloc (by simp;omega) _).alloc (by simp;omega) _
   | exact((((BW.out _ V.out).alloc (by omega) _).alloc (by simp;omega) _).setCell (by simp;omega) _).setCell (by simp;omega) _
 have y0:D.cell? ⟨I.heap.size,0,none⟩=some (.slice (some ⟨g,0,none⟩) n n):=by rw[A];go_simp
 have y1:D.cell? ⟨I.heap.size+1,0,none⟩=some (.int .i64 (f:Int)):=by rw[A];go_simp
 have y2:D.cell? ⟨I.heap.size+1,1,none⟩=some (.int .i64 (nf+1)):=by rw[A];go_simp
 have y3:D.cell? ⟨w.heap.size+1+1,0,none⟩=some (.slice none 0 0):=by rw[A];go_simp
 have y4:D.cell? ⟨w.heap.size+1+1+1,0,none⟩=some (.int .i64 0):=by rw[A];go_simp
 have y5:D.cell? ⟨w.heap.size+1+1+1,1,none⟩=some (.int .i64 0):=by rw[A];go_simp
 have y6:∀ o,D.frozen? ⟨w.heap.size+1+1,o,none⟩=false:=fun o=>by rw[A];go_simp
 have y7:∀ o,D.frozen? ⟨w.heap.size+1+1+1,o,none⟩=false:=fun o=>by rw[A];go_simp
 have z1:I.heap.size<D.heap.size:=by omega
 have z2:I.heap.size+1<D.heap.size:=by omega
 have z3:w.heap.size+1+1<D.heap.size:=by omega
 have z4:w.heap.size+1+1+1<D.heap.size:=by omega
 have z5:¬ I.heap.size=w.heap.size+1+1:=by omega
 have z6:¬ I.heap.size+1=w.heap.size+1+1:=by omega
 have z7:¬ I.heap.size=w.heap.size+1+1+1:=by omega
 have z8:¬ I.heap.size+1=w.heap.size+1+1+1:=by omega
 clear A l0 l1 l2 l3 l4 l5 l6 l7 d6 d7 b7
 go_region
 all_goals (try go_wp2)
 all_goals
  refine yq (v:=.tuple #[.agg #[.slice (some ⟨g,0,none⟩) n n],.agg #[.int .i64 (f:Int),.int .i64 (nf+1)],.int .i64 0]) (by simp[results,Tryz.results113,go_sem,y3,y4,y5]) rfl ⟨g,rfl,?_,by omega,?_⟩
  ·first
    | exact(((a6.out.setCell (by simp;omega) _).setCell (by simp;omega) _).setCell (by simp;omega) _).drew
    | exact((a6.out.setCell (by simp;omega) _).setCell (by simp;omega) _).setCell (by simp;omega) _
  ·refine b6.out.up (fun b hb O=>?_)
   first
    | rw[heap_drew,yo _ _ _ _ (by show b≠w.heap.size+1+1+1;omega),yo _ _ _ _ (by show b≠w.heap.size+1+1+1;omega),yo _ _ _ _ (by show b≠w.heap.size+1+1;omega)]
    | rw[yo _ _ _ _ (by show b≠w.heap.size+1+1+1;omega),yo _ _ _ _ (by show b≠w.heap.size+1+1+1;omega),yo _ _ _ _ (by show b≠w.heap.size+1+1;omega)]
end Go.Proofs.YtgjfmepbphfjoaaGreat
