/-
  x
-/
import Derived.Test.YtcbcpomacdngmaaGreatQ30
namespace Go.Proofs.YtcbcpomacdngmaaGreat
set_option maxRecDepth 100000
set_option maxHeartbeats 4000000
set_option linter.unusedVariables false
open Go.RowKit Go.ChangeShapes Go.WideShapes
def zsv:Prop:=∀ (A B:RA) (R Q:Rl) (w:World),zsq R->zct w A R->zct w B Q ->
 Calls Tryz.prog 17 #[rlV A R,rlV B Q] w fun e w' => ∃ r:Bool,e=.returned (.bool r)/\Below w.heap.size w w' /\(r=true↔R=Q)
theorem runN(hR:zfn)(X:Nat->Prop){W Z:Wl}{L:List (Int × Bool)}{S:List Int}(H:zan W)(hL:L.length<=120)(h2:L.foldl zdG W=Z)(h3:zny W L=S){n n4 m4 m:Nat}(hn:W.fs.length=n)(a5:W.pt.length=n4)(U:Z.pt.length=m4)(hm:L.length=m){a0 a1 a2 a3 a4:Option Addr}{c0 c1 c2 c3 c4:Nat}{la:Option Addr}{lc:Nat}{V:World}(hX:∀ b,X b->b<V.heap.size)(hC:WlC ⟨a0,a1,a2,a3,a4,c0,c1,c2,c3,c4⟩ W)(hW:zgr X V ⟨a0,a1,a2,a3,a4,c0,c1,c2,c3,c4⟩ W)(hs:SlA la m lc)(hP:zfh V la L) :
  Calls Tryz.prog 20 #[.agg #[.slice a0 n c0,.slice a1 n c1,.slice a2 n c2,.slice a3 n c3,.slice a4 n4 c4],.slice la m lc] V fun e w' => ∃ (E F I J M sa:Option Addr) (d0 d1 d2 d3 O sc:Nat),e=.returned (.tuple #[.agg #[.slice E n d0,.slice F n d1,.slice I n d2,.slice J n d3,.slice M m4 O],.slice sa m sc,.int .i64 0])/\Below V.heap.size V w' /\ WlC ⟨E,F,I,J,M,d0,d1,d2,d3,O⟩ Z/\zgr X w' ⟨E,F,I,J,M,d0,d1,d2,d3,O⟩ Z/\St X (fun w=>zak w sa S) w' := by
 have hE:=zzh H hL;obtain⟨_,_,e1,e2⟩:=zrT hE;have D:zan Z/\Z.fs.length=W.fs.length:=by rw[<- h2];exact zgc L H
 have T:S.length=m:=by rw[<- h3,ziU,hm]
 have h:=zAG hR X (zdq H) (by omega) hE (e1.trans h2) (e2.trans h3) hm T hX hC hW hs hP;rw[D.1.lr,D.1.lp,D.1.lq,D.2,H.lr,H.lp,H.lq,hn,a5,U] at h;exact h
theorem zAL(hT:zfN)(X:Nat->Prop){W Z:Wl}{k:Int}{s:Bool}(h1:zcp W k s=0)(h2:zbz W k s=Z){n n4 m4:Nat}(hn:W.fs.length=n)(U:W.pt.length=n4)(T:Z.pt.length=m4){a0 a1 a2 a3 a4:Option Addr}{c0 c1 c2 c3 c4:Nat}{V:World}(hX:∀ b,X b->b<V.heap.size)(hC:WlC ⟨a0,a1,a2,a3,a4,c0,c1,c2,c3,c4⟩ W)(hW:zgr X V ⟨a0,a1,a2,a3,a4,c0,c1,c2,c3,c4⟩ W) :
  Calls Tryz.prog 13 #[.agg #[.slice a0 n c0,.slice a1 n c1,.slice a2 n c2,.slice a3 n c3,.slice a4 n4 c4],.agg #[.int .i64 k,.bool s]] V fun e w' => ∃ (E F I J M:Option Addr) (d0 d1 d2 d3 O:Nat),e=.returned (.tuple #[.agg #[.slice E n d0,.slice F n d1,.slice I n d2,.slice J n d3,.slice M m4 O],.int .i64 0])/\Below V.heap.size V w' /\ WlC ⟨E,F,I,J,M,d0,d1,d2,d3,O⟩ Z/\zgr X w' ⟨E,F,I,J,M,d0,d1,d2,d3,O⟩ Z:=by
 obtain⟨H,q,rfl,hq,_⟩:=zbW h1
 have D:zan Z/\Z.fs.length=W.fs.length:=by
  have:=zhr H ((q:Int),s);unfold zdG at this;dsimp only at this;rw[yd h1,h2] at this;exact this
 have h:=zpr hT X (zdq H) h1 h2 hX hC hW;rw[D.1.lr,D.1.lp,D.1.lq,D.2,H.lr,H.lp,H.lq,hn,U,T] at h;exact h
theorem zzn(hT:zfN)(X:Nat->Prop){W:Wl}{k:Int}{s:Bool}{E:Int}(H:zan W)(h1:zcp W k s=E)(hE:E≠0){n U:Nat}(hn:W.fs.length=n)(T:W.pt.length=U){a0 a1 a2 a3 a4:Option Addr}{c0 c1 c2 c3 c4:Nat}{V:World}(hX:∀ b,X b->b<V.heap.size)(Z:WlC ⟨a0,a1,a2,a3,a4,c0,c1,c2,c3,c4⟩ W)(hW:zgr X V ⟨a0,a1,a2,a3,a4,c0,c1,c2,c3,c4⟩ W) :
  Calls Tryz.prog 13 #[.agg #[.slice a0 n c0,.slice a1 n c1,.slice a2 n c2,.slice a3 n c3,.slice a4 U c4],.agg #[.int .i64 k,.bool s]] V fun e w' => ∃ (D F I J M:Option Addr) (d0 d1 d2 d3 O:Nat),e=.returned (.tuple #[.agg #[.slice D 0 d0,.slice F 0 d1,.slice I 0 d2,.slice J 0 d3,.slice M 0 O],.int .i64 E])/\Below V.heap.size V w' := by
 have hz:zbz W k s=zka:=by unfold zbz;rw[h1,ya hE]
 have h:=zpr hT X (zdq H) h1 hz hX Z hW;rw[H.lr,H.lp,H.lq,hn,T] at h;exact h.mono fun e w' ⟨D,F,I,J,M,d0,d1,d2,d3,O,x1,x2,_⟩=>⟨D,F,I,J,M,d0,d1,d2,d3,O,x1,x2⟩
theorem checkN(hK:zdY){W:Wl}(H:zan W){n E:Nat}(hn:W.fs.length=n)(D:W.pt.length=E){a0 a1 a2 a3 a4:Option Addr}{c0 c1 c2 c3 c4:Nat}{V:World}(F:WlC ⟨a0,a1,a2,a3,a4,c0,c1,c2,c3,c4⟩ W)(I:zdF V ⟨a0,a1,a2,a3,a4,c0,c1,c2,c3,c4⟩ W) :
  Calls Tryz.prog 10 #[.agg #[.slice a0 n c0,.slice a1 n c1,.slice a2 n c2,.slice a3 n c3,.slice a4 E c4]] V fun e w' => e=.returned (.int .i64 0)/\Below V.heap.size V w' := by
 have h:=zgU hK (zdq H) (zbU.2 H) F I;rw[H.lr,H.lp,H.lq,hn,D] at h;exact h
theorem zqH(W:World)(D:List Value)(t:Nat):∀ j u,D[j]?=some u->(W.alloc (.cells D.toArray t)).cell? ((⟨W.heap.size,0,none⟩:Addr).add j)=some u:=fun j u E=>by
 rw[Addr.add_lit,yB];exact zad W D.toArray t j (by simpa using E)
theorem zkH{w w' : World}{b o:Nat}(h:w'.heap[b]?=w.heap[b]?):w'.cell? ⟨b,o,none⟩=w.cell? ⟨b,o,none⟩:=by simp[World.cell?,h]
theorem zmT{w w' : World}{b o:Nat}(h:w'.heap[b]?=w.heap[b]?):w'.frozen? ⟨b,o,none⟩=w.frozen? ⟨b,o,none⟩:=yD (w:=w) h
theorem zld(x:Pt):∀ u ∈ zcY x (.slice none 0 0),u.oneCell' = true:=fun u D=>by
 unfold zcY at D;simp at D;rcases D with rfl|rfl|rfl|rfl|rfl <;> rfl
theorem zuF(x y:Pt):∀ u ∈ zcY x (.slice none 0 0)++zcY y (.slice none 0 0),u.oneCell' = true:=fun u D=>by
 rcases List.mem_append.1 D with h|h
 ·exact zld _ u h
 ·exact zld _ u h
theorem zuu:zvz:=fun X a c L Fr o t w hX hN hB a5 hL=>by
 have DC:Hid _:=zhY a c L Fr w hN hB a5 hL.at;have DO:Hid (∀ W,_):=fun W=>zgi Fr o t W;by_cases h1:zbd L Fr=0
 ·rw[h1] at DC;have R:=zcN.1 h1;have a6:=R.few;have hF:=zdx R;by_cases I:zcA Fr o t=0
  ·rw[I] at DO
   have F:zfF L Fr o t=if 10<L.length then 1 else 0:=by
    unfold zcA at I;unfold zfF;rw[ya (yJ h1)];by_cases e1:0<=o/\o<Fr
    ·rw[ya (yJ e1)] at I |-;by_cases e2:0<=t/\t<=1000
     ·rw[ya (yJ e2)]
     ·rw[yd e2] at I;cases I
    ·rw[yd e1] at I;cases I
   have c8:IntKind.i64.wrap ((L.length:Int)+2)=(L.length:Int)+2:=by rw[yI];omega
   have b7:IntKind.i64.wrap ((L.length:Int)+1)=(L.length:Int)+1:=by rw[yI];omega
   by_cases b2:10<L.length
   ·rw[yd b2] at F;have er:znP L Fr o t=[]:=by unfold znP;rw[F];rfl
    have en:zjw L Fr o t=0:=by unfold zjw;rw[F];rfl
    rw[er,en,F];have hd:decide ((12:Int)<(L.length:Int)+2)=true:=yG (by omega);clear hL hB a5 hF R h1 I F er en;generalize L.length=n at *
    go_enter Tryz.func142,Tryz.ntmps142
    go_wp2_with fail
    refine yi DC.out ?_;rintro e w1 ⟨rfl,U⟩;have D:Hid (Below w.heap.size w w1):=U;clear U DC
    go_wp2_with fail
    refine yi (DO.out _) ?_;rintro e w9 ⟨rfl,O⟩;have J:=O.symm;clear O;subst J
    go_wp2_with fail
    exact yw (v:=.tuple #[.slice none 0 0,.int .i64 0,.int .i64 1]) (by simp[results,Tryz.results142,go_sem]) rfl ⟨none,0,rfl,D.out,zdh,zbA X _⟩
   ·rw[ya b2] at F;have er:znP L Fr o t=zcz L o t:=by unfold znP;rw[yd F]
    have en:zjw L Fr o t=(L.length:Int):=by unfold zjw;rw[yd F]
    rw[er,en,F];have hd:decide ((12:Int)<(L.length:Int)+2)=false:=yF (by omega);obtain⟨i0,c7,c9,d4,d5⟩:=info_parts zwA;have DP:Hid (∀ W,Below w.heap.size w W->_):=fun W hW=>zed a c L W a6 hF (hL.at.below hW)
    have a9:Hid (∀ (B:Nat) (W1 w3:World) (K:Nat->Value) (lo hi:Nat->Nat) (v2:Value),w.heap.size<=B->CpI B L K lo hi L.length W1->zar (fun x=>x=B) W1 w3->w3.ownsRow B 121 5 v2 (L.length+2) (zch L K++(zcY ⟨o,t,(L.length:Int)+1,[],false⟩ (.slice none 0 0)++zcY ⟨o,t,(L.length:Int),[],false⟩ (.slice none 0 0)))->∃ va vc,v2=.slice va (L.length+2) vc/\SlA va (L.length+2) vc/\zbP X w3 va (zcz L o t)):=fun B W1 w3 K lo hi v2 b5 h ho Z=>by
     rw[<- List.append_assoc,zjA,zjA] at Z;have el:(zcz L o t).length=L.length+2:=by unfold zcz;simp
     have eo:L++[(⟨o,t,(L.length:Int)+1,[],false⟩:Pt)] ++ [⟨o,t,(L.length:Int),[],false⟩]=zcz L o t:=by unfold zcz;simp
     rw[eo] at Z;rw[<- el] at Z |-
     obtain⟨va,vc,e,hs,hp⟩:=zuI b5 Z (fun i b6=>by
      rw[el] at b6;by_cases e:i<L.length
      ·have e1:pt (zcz L o t) i=pt L i:=by unfold zcz;exact zmb e
       rw[e1,List.length_append,List.length_singleton,ya (by omega),ya (by omega)];exact h.grs b5 hF ho e (fun b U=>Or.inl (by have:b=B:=U;have:=(h.at' i e).1;omega))
      ·have hc:(pt (zcz L o t) i).cm=[]:=by
        rw[zfH (by rw[el];exact b6)];unfold zcz;rw[List.getElem_append_right (by omega)];have:i-L.length=0\/i-L.length=1:=by omega
        rcases this with h0|h0
        ·simp[h0]
        ·simp[h0]
       rw[hc]
       have hk:(if i=(L++[(⟨o,t,(L.length:Int)+1,[],false⟩:Pt)]).length then Value.slice none 0 0 else if i=L.length then Value.slice none 0 0 else K i)=.slice none 0 0:=by
        rw[List.length_append,List.length_singleton];by_cases e1:i=L.length
        ·simp[e1]
        ·have:i=L.length+1:=by omega
         simp[this]
       rw[hk];exact fun w' _=>zsn.nil w')
     exact⟨va,vc,e,hs,zhp hX hp⟩
    have b8:Hid (∀ K,(zch L K).length=L.length*5):=fun K=>zbO _ _;have EL:Hid ((zcz L o t).length=L.length+2):=by show _=_;unfold zcz;simp
    clear hL hB a5 hF R h1 I F er en hN;generalize zcz L o t=M at *;have b1:Hid (∀ (B:Nat) (W1:World) (K:Nat->Value) (lo hi:Nat->Nat),CpI B L K lo hi L.length W1->W1.ownsRow B 121 5 (.slice (some ⟨B,0,none⟩) L.length L.length) L.length (zch L K)):=fun B W1 K lo hi h=>h.row;obtain⟨n,hn⟩:∃ z,L.length=z:=⟨_,rfl⟩;rw[hn] at a6 b2 c8 b7 hd DC DP a9 EL b1;rw[hn];clear hn;have b9:n+2<=maxLen:=by unfold maxLen;omega
    have c6:(n+2)*56<=140737488355328:=by omega
    go_enter Tryz.func142,Tryz.ntmps142
    go_wp2_with fail
    refine yi DC.out ?_;rintro e w1 ⟨rfl,U⟩;have D:Hid (Below w.heap.size w w1):=U;clear U DC
    go_wp2_with fail
    refine yi (DO.out _) ?_;rintro e w9 ⟨rfl,O⟩;have J:=O.symm;clear O;subst J
    go_wp2_with fail
    refine yi (DP.out _ D.out) ?_;rintro e w2 ⟨K,lo,hi,rfl,a7,hc⟩;have b3:Hid (Below w1.heap.size w1 w2):=a7;have b0:Hid (w2.ownsRow w1.heap.size 121 5 (.slice (some ⟨w1.heap.size,0,none⟩) n n) n (zch L K)):=b1.out _ _ _ _ _ hc;have FF:Hid (∀ (w3:World) (v2:Value),_->_->_):=fun w3 v2 h1 I=>a9.out _ w2 w3 K lo hi v2 D.out.size hc h1 I;have s2:w1.heap.size<w2.heap.size:=(World.ownsRow.lt b0.out _ rfl).2;clear a7 hc DP a9 b1 b8;generalize zch L K=cs at *
    go_wp2_with (at_builtin;refine wpList_append_own _ rfl _ _ 26 rfl w1.heap.size 121 i0 (.agg #[.int .i64 0,.int .i64 0,.int .i64 0,.slice none 0 0,.bool false]) 5 56 Tryz.underlying26 c7 c9 d4 d5 rfl (by decide) (.slice (some ⟨w1.heap.size,0,none⟩) n n) n cs rfl (World.ownsRow.alloc b0.out _) ⟨w2.heap.size,0,none⟩ 2 2 (zcY ⟨o,t,(n:Int)+1,[],false⟩ (.slice none 0 0)++zcY ⟨o,t,(n:Int),[],false⟩ (.slice none 0 0)) rfl rfl ?c1 ?c2 b9 c6 ?c5 ?_)
    case c1=>first|exact zqH w2 [.int .i64 o,.int .i64 t,.int .i64 ((n:Int)+1),.slice none 0 0,.bool false,.int .i64 o,.int .i64 t,.int .i64 (n:Int),.slice none 0 0,.bool false] _|exact fun j u h=>h
    case c2=>exact zuF _ _
    case c5=>first|omega|(simp;omega)
    intro v3 w3 a8 T _;have o3:zar (fun x=>x=w1.heap.size) w2 w3:=(zar.of_below (zaa w2 _)).trans (zar.grown T (fun b U=>by cases U;rfl));obtain⟨va,vc,rfl,hs,hp⟩:=FF.out w3 v3 o3 a8;have b4:Hid (Below w.heap.size w w3):=(D.out.trans ((b3.out.trans ((zaa w2 _).mono b3.out.size)).mono D.out.size)).grown T (by simp;have:=D.out.size;omega) (fun kk hk=>by cases hk;exact D.out.size);have HS:Hid _:=hs;have HP:Hid _:=hp;clear a8 T o3 hs hp FF b0
    go_wp2_with fail
    exact yw (v:=.tuple #[.slice va (n+2) vc,.int .i64 (n:Int),.int .i64 0]) (by simp[results,Tryz.results142,go_sem]) rfl (by first|exact⟨va,vc,by rw[EL.out],b4.out,(by rw[EL.out];exact HS.out),HP.out⟩|exact⟨va,⟨vc,by rw[EL.out]⟩,b4.out,(by rw[EL.out];exact HS.out),HP.out⟩)
  ·have F:zfF L Fr o t=zcA Fr o t:=by
    unfold zcA at I;unfold zfF zcA;rw[ya (yJ h1)];by_cases e1:0<=o/\o<Fr
    ·rw[ya (yJ e1)] at I |-;by_cases e2:0<=t/\t<=1000
     ·rw[ya (yJ e2)] at I;exact absurd rfl I
     ·rw[yd e2,ya (yJ e1),yd e2]
    ·rw[yd e1,yd e1]
   have er:znP L Fr o t=[]:=by unfold znP;rw[F,ya I]
   have en:zjw L Fr o t=0:=by unfold zjw;rw[F,ya I]
   rw[er,en,F];have y1:decide (zcA Fr o t=0)=false:=yF I;have y2:(zcA Fr o t == 0)=false:=by simp[I]
   clear hL hB a5 hF R h1 F er en;generalize zcA Fr o t=E at *;generalize L.length=n at *
   go_enter Tryz.func142,Tryz.ntmps142
   go_wp2_with fail
   refine yi DC.out ?_;rintro e w1 ⟨rfl,U⟩;have D:Hid (Below w.heap.size w w1):=U;clear U DC
   go_wp2_with fail
   refine yi (DO.out _) ?_;rintro e w9 ⟨rfl,O⟩;have J:=O.symm;clear O;subst J
   go_wp2_with fail
   exact yw (v:=.tuple #[.slice none 0 0,.int .i64 0,.int .i64 E]) (by simp[results,Tryz.results142,go_sem]) rfl ⟨none,0,rfl,D.out,zdh,zbA X _⟩
 ·have F:zfF L Fr o t=zbd L Fr:=by unfold zfF;rw[yd h1]
  have er:znP L Fr o t=[]:=by unfold znP;rw[F,ya h1]
  have en:zjw L Fr o t=0:=by unfold zjw;rw[F,ya h1]
  rw[er,en,F];have y1:decide (zbd L Fr=0)=false:=yF h1;have y2:(zbd L Fr == 0)=false:=by simp[h1]
  clear hL hB a5 F er en DO;generalize zbd L Fr=E at *;generalize L.length=n at *
  go_enter Tryz.func142,Tryz.ntmps142
  go_wp2_with fail
  refine yi DC.out ?_;rintro e w1 ⟨rfl,U⟩;have D:Hid (Below w.heap.size w w1):=U;clear U DC
  go_wp2_with fail
  exact yw (v:=.tuple #[.slice none 0 0,.int .i64 0,.int .i64 E]) (by simp[results,Tryz.results142,go_sem]) rfl ⟨none,0,rfl,D.out,zdh,zbA X _⟩
theorem zvg(F D:Nat)(h:D<=1000):∃ E,(∀ W,(Instr.slice 119 (.slice (some ⟨F,0,none⟩) (D+1) (D+1)) (some (.int .i64 1)) none none).run Tryz.prog W=.ok (.slice (some ⟨F,E,none⟩) D D) W)/\(D=0\/E=1):=by
 by_cases e:D=0
 ·subst e;exact⟨0,fun W=>by go_simp,Or.inl rfl⟩
 ·have h1:¬ ((D:Int)+1=1):=by omega
  have I:(1:Int)<=(D:Int)+1:=by omega
  exact⟨1,fun W=>(by first|(go_simp;done)|(go_simp;intro h;omega)),Or.inr rfl⟩
theorem zuL:zvB:=fun X a c L Fr k o t w hX hN hB Z hL=>by
 have DH:Hid (∀ o1:Obj,_):=fun o1=>zck a c L Fr k o t (w.alloc o1) hN hB Z (hL.at.below (zaa _ _));unfold zie zuK;by_cases hH:zaU L Fr k o t=0
 ·rw[hH] at DH;obtain⟨R,q,rfl,hq,_⟩:=zcs hH;have a9:=R.few;have hF:=zdx R;have d9:(q:Int)<(L.length:Int):=by omega
  obtain⟨b,oo,ea,_,_,_,ca,cc,c3,_,_⟩:=hL.at q hq;subst ea;have e3:b<w.heap.size:=ye _ _ c3;by_cases h0:(pt L q).cm.length=0
  ·have eP:zfI L Fr q o t=8:=by unfold zfI;rw[hH,yj,yd h0];rfl
   rw[eP];rw[h0] at c3;clear hL hB Z hF R hH eP h0;generalize L.length=n at *
   go_enter Tryz.func146,Tryz.ntmps146
   go_wp2_with fail
   refine yi (DH.out _) ?_;rintro e w1 ⟨rfl,F⟩;have O:Hid (Below w.heap.size w w1):=(zaa _ _).trans (F.mono (by simp));have r1:w1.cell? ⟨w.heap.size,0,none⟩=some (.slice none 0 0):=zab (zad w #[.slice none 0 0] 47 0 rfl) F;have f1:w1.frozen? ⟨w.heap.size,0,none⟩=false:=(F.frozen (by simp)).trans (by go_simp);have s1:w.heap.size<w1.heap.size:=ye _ _ r1;replace c3:=zab c3 O.out;have e4:¬ b=w.heap.size:=by omega
   have e1:¬ w.heap.size=b:=by omega
   clear F DH
   go_wp2_with fail
   have T:Hid (Below w.heap.size w (w1.setCell ⟨w.heap.size,0,none⟩ (.slice none 0 0))):=O.out.setCell (by simp) _;exact yw (v:=.tuple #[.slice none 0 0,.agg #[.slice none 0 0],.int .i64 8]) (by simp[results,Tryz.results146,go_sem,r1]) rfl (by first|exact⟨none,0,none,0,rfl,T.out,zdh,zbA X _,fun w' _ i hi=>absurd hi (yx _)⟩|exact⟨none,0,none,⟨0,rfl⟩,T.out,zdh,zbA X _,fun w' _ i hi=>absurd hi (yx _)⟩|exact⟨none,0,⟨none,0,rfl⟩,T.out,zdh,zbA X _,fun w' _ i hi=>absurd hi (yx _)⟩)
  ·have eP:zfI L Fr q o t=0:=by unfold zfI;rw[hH,yj,ya h0];rfl
   rw[eP,yd rfl,yd rfl,yj];obtain⟨I,a7⟩:∃ I,(pt L q).cm.length=I+1:=⟨(pt L q).cm.length-1,by omega⟩;have c9:I<=16:=by have:=(zbm.1 (R.ok q hq)).2.2.2.2.1.1;omega
   rw[a7] at c3;have DP:Hid (∀ W,Below w.heap.size w W->_):=fun W hW=>zed (some ⟨b,oo,none⟩) c L W a9 hF (hL.at.below hW)
   have b1:Hid (∀ (B:Nat) (U W3:World) (K:Nat->Value) (lo hi:Nat->Nat) (D o' : Nat) (ga:Option Addr) (gc:Nat) (J:Nat->Value),w.heap.size<=B->CpI B L K lo hi L.length U->lo q<=D->D<hi q->U.rowIs D 47 (I+1) J->(∀ i,i<I+1->∃ ga gc,J i=.slice ga (gr (pt L q).cm i).length gc/\St (fun x=>x<=D\/hi q<=x) (fun w=>zaI w ga (gr (pt L q).cm i)) U)->J 0=.slice ga (gr (pt L q).cm 0).length gc->(I=0\/o' = 1)->zar (fun x=>x<=B) (U.setCell ⟨B,q*5+3,none⟩ (.slice (some ⟨D,o', none⟩) I I)) W3->W3.heap[B]?=(U.setCell ⟨B,q*5+3,none⟩ (.slice (some ⟨D,o', none⟩) I I)).heap[B]?->SlA (some ⟨B,0,none⟩) L.length L.length/\zbP X W3 (some ⟨B,0,none⟩) (zia L q)/\zqA X W3 ga (gr (pt L q).cm 0)):=fun B U W3 K lo hi D o' ga gc J c7 h F a5 b0 b7 c8 a8 b8 c6=>by
    have d7:=(h.at' q hq).1;have ho:zar (fun x=>x<=B) U W3:=(zar.set (X:=fun x=>x<=B) U _ (yk B)).trans b8;have a1:=zii h.row (k:=q) (f:=3) (u:=.slice (some ⟨D,o', none⟩) I I) (v:=.slice (some ⟨D,o', none⟩) I I) (x:={ pt L q with cm:=(pt L q).cm.drop 1 }) hq (by omega) rfl;have a2:=zaK a1 (w' := W3) (fun kk hk=>by cases hk;exact c6);have hd:((pt L q).cm.drop 1).length=I:=by simp[a7]
    have hx:St (fun x=>x<w.heap.size) (fun w=>zsn w (.slice (some ⟨D,o', none⟩) I I) ((pt L q).cm.drop 1)) W3:=fun w' e0=>by
     have h2:zar (fun x=>x<=B) U w' := ho.trans (e0.mono (fun x (hx:x<w.heap.size)=>(by show x<=B;omega)));have b3:=b0.of_block (h2.block D b0.lt (by show ¬ D<=B;omega));refine⟨some ⟨D,o', none⟩,I,by rw[hd],⟨(fun e=>by cases e),by rw[hd];exact yk _,by omega⟩,fun i d4=>?_⟩;rw[hd] at d4;obtain⟨b5,b6,e,hs⟩:=b7 (i+1) (by omega);have d8:o' = 1:=by rcases a8 with h|h;omega;exact h
     subst d8;refine⟨D,1,b5,b6,rfl,?_,?_⟩
     ·rw[zos _ (by omega),Nat.add_comm 1 i,b3.cell (by omega),e]
     ·rw[zos _ (by omega)];exact(hs.off (h2.mono (fun x (hx:x<=B)=>(by show x<=D\/hi q<=x;omega)))).at
    have h1:=h.put (Y:=fun x=>x<=B) (B0:=w.heap.size) c7 hF hq a2 (fun i hi=>by simp only[ya hi]) ho (fun b hb=>Or.inl hb) (by simp only[if_true];exact hx);refine⟨h1.1,?_,?_⟩
    ·unfold zia;rw[yj];exact zhp hX h1.2
    ·obtain⟨b5,b6,e,hs⟩:=b7 0 (by omega);rw[c8] at e;simp only[Value.slice.injEq] at e;obtain⟨rfl,_,rfl⟩:=e;exact(hs.off (ho.mono (fun x (hx:x<=B)=>(by show x<=D\/hi q<=x;omega)))).less (fun x hx=>(by show x<=D\/hi q<=x;have:=hX x hx;omega))
   have OC:Hid (∀ (B:Nat) (U:World) (K:Nat->Value) (lo hi:Nat->Nat),CpI B L K lo hi L.length U->∃ D J ga gc,U.cell? ⟨B,q*5+3,none⟩=some (.slice (some ⟨D,0,none⟩) (I+1) (I+1))/\(∀ o,U.frozen? ⟨B,o,none⟩=false)/\B<D/\lo q<=D/\D<hi q/\U.cell? ⟨D,0,none⟩=some (.slice ga (gr (pt L q).cm 0).length gc)/\J 0=.slice ga (gr (pt L q).cm 0).length gc/\Hid (U.rowIs D 47 (I+1) J/\(∀ i,i<I+1->∃ ga gc,J i=.slice ga (gr (pt L q).cm i).length gc/\St (fun x=>x<=D\/hi q<=x) (fun w=>zaI w ga (gr (pt L q).cm i)) U))):=fun B U K lo hi h=>by
    obtain⟨D,J,h1,h2,h3,h4,h5⟩:=h.gs q hq;have d7:=(h.at' q hq).1;rw[a7] at h3 h4 h5;obtain⟨ga,gc,e,_⟩:=h5 0 (by omega);refine⟨D,J,ga,gc,?_,fun o=>h.row.frozenAt o,by omega,h1,h2,?_,e,⟨h4,h5⟩⟩
    ·exact(h.cell hq (show 3<5 by omega)).trans (by rw[h3];rfl)
    ·rw[h4.cell (by omega),e]
   have ML:Hid ((zia L q).length=L.length):=by show _=_;unfold zia;simp
   clear hL hB Z hF R hH eP h0 a7 hN;generalize zia L q=M at *;generalize gr (pt L q).cm 0=G0 at *;obtain⟨n,hn⟩:∃ z,L.length=z:=⟨_,rfl⟩;rw[hn] at hq d9 a9 DH DP b1 OC ML;rw[hn];clear hn
   go_enter Tryz.func146,Tryz.ntmps146
   go_wp2_with fail
   refine yi (DH.out _) ?_;rintro e w1 ⟨rfl,F⟩;have O:Hid (Below w.heap.size w w1):=(zaa _ _).trans (F.mono (by simp));have r1:w1.cell? ⟨w.heap.size,0,none⟩=some (.slice none 0 0):=zab (zad w #[.slice none 0 0] 47 0 rfl) F;have f1:w1.frozen? ⟨w.heap.size,0,none⟩=false:=(F.frozen (by simp)).trans (by go_simp);have s1:w.heap.size<w1.heap.size:=ye _ _ r1;replace c3:=zab c3 O.out;have k1:¬ ((I:Int)+1=0):=by omega
   have k2:decide ((I:Int)+1=0)=false:=yF k1;have k3:((I:Int)+1 == 0)=false:=by simp;omega
   clear F DH
   go_wp2_with fail
   refine yi (DP.out _ O.out) ?_;rintro e w2 ⟨K,lo,hi,rfl,a5,hc⟩;obtain⟨D,J,ga,gc,x3,fz,e2,d5,d6,xq,hJ,HR⟩:=OC.out _ _ _ _ _ hc;obtain⟨o', Z,a8⟩:=zvg D I (by omega);have FF:Hid (∀ W3,_->_->_):=fun W3 h1 h2=>b1.out _ w2 W3 K lo hi D o' ga gc J O.out.size hc d5 d6 HR.out.1 HR.out.2 hJ a8 h1 h2;have T:Hid (Below w1.heap.size w1 w2):=a5;replace r1:=zab r1 a5;have f2:w2.frozen? ⟨w.heap.size,0,none⟩=false:=(a5.frozen (show (⟨w.heap.size,0,none⟩:Addr).block<w1.heap.size from s1)).trans f1;have s2:w1.heap.size<w2.heap.size:=ye _ _ x3;have s3:D<w2.heap.size:=ye _ _ xq;have s4:w.heap.size<w2.heap.size:=ye _ _ r1;have n1:¬ D=w1.heap.size:=by omega
   have n2:¬ w1.heap.size=D:=by omega
   have n3:¬ w.heap.size=w1.heap.size:=by omega
   have n4:¬ w1.heap.size=w.heap.size:=by omega
   have n5:¬ w.heap.size=D:=by omega
   have n6:¬ D=w.heap.size:=by omega
   clear a5 hc DP b1 OC hJ HR a8 f1 c3;obtain⟨gl,b2⟩:∃ z,G0.length=z:=⟨_,rfl⟩;have b4:Hid (G0.length=gl):=b2;rw[b2] at xq;clear b2
   go_wp2_with fail
   obtain⟨Y,hY⟩:∃ Y,w2.setCell ⟨w1.heap.size,q*5+3,none⟩ (.slice (some ⟨D,o', none⟩) I I)=Y:=⟨_,rfl⟩;have yq:Y.cell? ⟨D,0,none⟩=some (.slice ga gl gc):=by rw[<- hY];exact(zkH (yv _ _ _ _ (by show D≠w1.heap.size;omega))).trans xq
   have y1:Y.cell? ⟨w.heap.size,0,none⟩=some (.slice none 0 0):=by rw[<- hY];exact(zkH (yv _ _ _ _ (by show w.heap.size≠w1.heap.size;omega))).trans r1
   have yf:Y.frozen? ⟨w.heap.size,0,none⟩=false:=by rw[<- hY];exact(zmT (yv _ _ _ _ (by show w.heap.size≠w1.heap.size;omega))).trans f2
   have BY:Hid (Below w.heap.size w Y):=by rw[<- hY];exact(O.out.trans (T.out.mono O.out.size)).setCell (show w.heap.size<=w1.heap.size from O.out.size) _
   rw[hY] at FF |-;have e5:w.heap.size<Y.heap.size:=ye _ _ y1;have e6:D<Y.heap.size:=ye _ _ yq;clear hY x3 fz xq r1 f2 Z
   go_region
   have o9:zar (fun x=>x<=w1.heap.size) Y (Y.setCell ⟨w.heap.size,0,none⟩ (.slice ga gl gc)):=zar.set (X:=fun x=>x<=w1.heap.size) Y _ (Nat.le_of_lt s1);have a6:Hid _:=FF.out _ o9 (yv _ _ _ _ (by show w1.heap.size≠w.heap.size;omega));have r9:((Y.setCell ⟨w.heap.size,0,none⟩ (.slice ga gl gc)).drew).cell? ⟨w.heap.size,0,none⟩=some (.slice ga gl gc):=by go_simp
   have P9:Hid (zbP X (Y.setCell ⟨w.heap.size,0,none⟩ (.slice ga gl gc)).drew (some ⟨w1.heap.size,0,none⟩) M):=a6.out.2.1.off ⟨yk _,fun _ _ _=>rfl⟩;have G9:Hid (zqA X (Y.setCell ⟨w.heap.size,0,none⟩ (.slice ga gl gc)).drew ga G0):=a6.out.2.2.off ⟨yk _,fun _ _ _=>rfl⟩;have S9:Hid _:=a6.out.1;have B9:Hid (Below w.heap.size w (Y.setCell ⟨w.heap.size,0,none⟩ (.slice ga gl gc)).drew):=(BY.out.setCell (by simp) _).drew;clear FF a6 o9;obtain⟨w9,b9⟩:∃ w9,(Y.setCell ⟨w.heap.size,0,none⟩ (.slice ga gl gc)).drew=w9:=⟨_,rfl⟩;rw[b9] at r9 P9 G9 B9 |-;clear b9
   go_wp2_with fail
   exact yw (v:=.tuple #[.slice (some ⟨w1.heap.size,0,none⟩) n n,.agg #[.slice ga gl gc],.int .i64 0]) (by simp[results,Tryz.results146,go_sem,r9]) rfl (by first|exact⟨_,n,ga,gc,by rw[ML.out,b4.out],B9.out,(by rw[ML.out];exact S9.out),P9.out,G9.out⟩|exact⟨_,⟨n,ga,⟨gc,by rw[ML.out,b4.out]⟩,B9.out,(by rw[ML.out];exact S9.out),P9.out,G9.out⟩⟩)
 ·have eP:zfI L Fr k o t=zaU L Fr k o t:=by unfold zfI;rw[yd hH]
  rw[eP,ya hH,ya hH];have y1:decide (zaU L Fr k o t=0)=false:=yF hH;have y2:(zaU L Fr k o t == 0)=false:=by simp[hH]
  clear hL hB Z eP;generalize zaU L Fr k o t=E at *;generalize L.length=n at *
  go_enter Tryz.func146,Tryz.ntmps146
  go_wp2_with fail
  refine yi (DH.out _) ?_;rintro e w1 ⟨rfl,F⟩;have O:Hid (Below w.heap.size w w1):=(zaa _ _).trans (F.mono (by simp));have r1:w1.cell? ⟨w.heap.size,0,none⟩=some (.slice none 0 0):=zab (zad w #[.slice none 0 0] 47 0 rfl) F;have f1:w1.frozen? ⟨w.heap.size,0,none⟩=false:=(F.frozen (by simp)).trans (by go_simp);have s1:w.heap.size<w1.heap.size:=ye _ _ r1;clear F DH
  go_wp2_with fail
  have T:Hid (Below w.heap.size w (w1.setCell ⟨w.heap.size,0,none⟩ (.slice none 0 0))):=O.out.setCell (by simp) _;exact yw (v:=.tuple #[.slice none 0 0,.agg #[.slice none 0 0],.int .i64 E]) (by simp[results,Tryz.results146,go_sem,r1]) rfl (by first|exact⟨none,0,none,0,rfl,T.out,zdh,zbA X _,fun w' _ i hi=>absurd hi (yx _)⟩|exact⟨none,0,none,⟨0,rfl⟩,T.out,zdh,zbA X _,fun w' _ i hi=>absurd hi (yx _)⟩|exact⟨none,0,⟨none,0,rfl⟩,T.out,zdh,zbA X _,fun w' _ i hi=>absurd hi (yx _)⟩)
theorem ztL:(Tryz.prog.info? 61).map (fun i=>(i.zero,i.size,i.bytes))=some (some (.agg #[.int .i64 0,.int .i64 0]),2,16):=by kernel_rfl
theorem zoO(w:World):(Instr.makeSlice 44 (.int .i64 16) (.int .i64 16)).run Tryz.prog w=.ok (.slice (some ⟨w.heap.size,0,none⟩) 16 16) (w.alloc (.cells (madeCells #[.int .i64 0,.int .i64 0] 32) 61)):=by
 obtain⟨i,hi,D,E,F⟩:=info_parts ztL;have h:=run_make (P:=Tryz.prog) w 44 61 i _ Tryz.underlying44 hi D .i64 .i64 16 16 (by omega) (by omega) (by rw[F];omega) (by omega);rw[E] at h;exact h
theorem zqg(n i:Nat)(h:i<n):(List.replicate n ((0:Int),(0:Int))).getD i (0,0)=(0,0):=by
 rw[zae _ _ (by rw[List.length_replicate];exact h),List.getElem_replicate]
theorem znl(n j:Nat)(h:j<n):(madeCells #[.int .i64 0,.int .i64 0] n)[j]?=some (.int .i64 0):=by
 have D:j % 2=0\/j % 2=1:=by omega
 rcases D with D|D <;> simp[madeCells,h,D]
theorem zrb(W:World):zau (W.alloc (.cells (madeCells #[.int .i64 0,.int .i64 0] 32) 61)) (some ⟨W.heap.size,0,none⟩) (List.replicate 16 (0,0)):=fun i hi=>by
 rw[List.length_replicate] at hi;refine⟨W.heap.size,0,rfl,?_,?_⟩
 ·rw[zqg 16 i hi];exact zad W _ _ _ (znl _ _ (by omega))
 ·rw[zqg 16 i hi];exact zad W _ _ _ (znl _ _ (by omega))
theorem zmu{x:Int}(h:isH x):∃ p:Nat,x=p/\p<16:=⟨x.toNat,by have:=h.1;omega,by have:=h.2;have:=h.1;omega⟩
theorem zeb{w W:World}{t:Nat}{D v1 v2 E:Value}(F:Below (w.heap.size+1) (w.alloc (.cells #[D,v1,v2,E] t)) W):W.heap[w.heap.size]?=some (.cells #[D,v1,v2,E] t (0,0)):=(F.block _ (Nat.lt_succ_self _)).trans (zci _ _ _ _ _ _)
theorem zet:zsu:=fun A R w hB hW=>by
 obtain⟨a0,a1,a2,a3,c0,c1,c2,c3⟩:=A;obtain⟨hN,a7,hH,hI,a6,hT⟩:=hB;obtain⟨w0,w1,w2,w3⟩:=hW;have I:Hid (∀ o1,_):=fun o1=>zec a0 c0 R.s (w.alloc o1) hN a7 (w0.below (zaa _ _));have M:Hid (∀ W,Below w.heap.size w W->_):=fun W hW=>zfV a2 c2 R.i W hI a6 (w2.below hW);clear w0 w1 w2 w3 a7 a6;dsimp only[rlV];unfold zaG;obtain⟨E0,h0⟩:∃ E,zbo R.s=E:=⟨_,rfl⟩;obtain⟨E1,h1⟩:∃ E,zaA R.i=E:=⟨_,rfl⟩;rw[h0] at I |-;rw[h1] at M |-;clear h0 h1;generalize R.s.length=n0 at *;generalize R.i.length=n2 at *;generalize R.t.length=n3 at *;generalize R.hs.length=n1 at *;by_cases e0:E0=0
 ·subst e0;rw[yd rfl];by_cases e1:n1=16
  ·subst e1;rw[yd rfl];by_cases e2:E1=0
   ·subst e2;rw[yd rfl];by_cases e3:4800<n3
    ·rw[yd e3];have a9:(4800:Int)<(n3:Int):=by omega
     go_enter Tryz.func32,Tryz.ntmps32
     go_wp2_with fail
     refine yi (I.out _) ?_;rintro e V ⟨rfl,D⟩;have F:Hid (Below w.heap.size w V):=(zaa w _).trans (D.mono (by simp));simp only[ys] at D;have O:Hid _:=zeb D;obtain⟨U,Z,l2,l3,T,lt⟩:=zaj O.out;clear D I
     go_wp2_with fail
     refine yi (M.out _ F.out) ?_;rintro e V2 ⟨rfl,D⟩;have J:Hid (Below w.heap.size w V2):=F.out.trans (D.mono F.out.size);have a5:Hid _:=zat O.out D;clear U Z l2 l3 T lt;obtain⟨U,Z,l2,l3,T,lt⟩:=zaj a5.out;clear D M
     go_wp2
     go_ret;exact⟨rfl,J.out⟩
    ·rw[ya e3];have a9:¬ (4800:Int)<(n3:Int):=by omega
     go_enter Tryz.func32,Tryz.ntmps32
     go_wp2_with fail
     refine yi (I.out _) ?_;rintro e V ⟨rfl,D⟩;have F:Hid (Below w.heap.size w V):=(zaa w _).trans (D.mono (by simp));simp only[ys] at D;have O:Hid _:=zeb D;obtain⟨U,Z,l2,l3,T,lt⟩:=zaj O.out;clear D I
     go_wp2_with fail
     refine yi (M.out _ F.out) ?_;rintro e V2 ⟨rfl,D⟩;have J:Hid (Below w.heap.size w V2):=F.out.trans (D.mono F.out.size);have a5:Hid _:=zat O.out D;clear U Z l2 l3 T lt;obtain⟨U,Z,l2,l3,T,lt⟩:=zaj a5.out;clear D M
     go_wp2
     go_ret;exact⟨rfl,J.out⟩
   ·rw[ya e2];have hz:(E1 == 0)=false:=by simp[e2]
    go_enter Tryz.func32,Tryz.ntmps32
    go_wp2_with fail
    refine yi (I.out _) ?_;rintro e V ⟨rfl,D⟩;have F:Hid (Below w.heap.size w V):=(zaa w _).trans (D.mono (by simp));simp only[ys] at D;have O:Hid _:=zeb D;obtain⟨U,Z,l2,l3,T,lt⟩:=zaj O.out;clear D I
    go_wp2_with fail
    refine yi (M.out _ F.out) ?_;rintro e V2 ⟨rfl,D⟩;have J:Hid (Below w.heap.size w V2):=F.out.trans (D.mono F.out.size);clear U Z l2 l3 T lt D M
    go_wp2
    go_ret;exact⟨rfl,J.out⟩
  ·rw[ya e1];have a8:¬ ((n1:Int)=16):=by omega
   have hz:((n1:Int) == 16)=false:=by simp[a8]
   go_enter Tryz.func32,Tryz.ntmps32
   go_wp2_with fail
   refine yi (I.out _) ?_;rintro e V ⟨rfl,D⟩;have F:Hid (Below w.heap.size w V):=(zaa w _).trans (D.mono (by simp));simp only[ys] at D;have O:Hid _:=zeb D;obtain⟨U,Z,l2,l3,T,lt⟩:=zaj O.out;clear D I M
   go_wp2
   go_ret;exact⟨rfl,F.out⟩
 ·rw[ya e0];have hz:(E0 == 0)=false:=by simp[e0]
  go_enter Tryz.func32,Tryz.ntmps32
  go_wp2_with fail
  refine yi (I.out _) ?_;rintro e V ⟨rfl,D⟩;have F:Hid (Below w.heap.size w V):=(zaa w _).trans (D.mono (by simp));clear D I M
  go_wp2
  go_ret;exact⟨rfl,F.out⟩
theorem zza(p:Int)(w:World)(D:p<0\/24<p) :
  Calls Tryz.prog 62 #[.int .i64 p] w fun e w' => e=.returned (.tuple #[.agg #[.slice none 0 0],.int .i64 2])/\Below w.heap.size w w' := by
 go_enter Tryz.func62,Tryz.ntmps62
 go_wp2_with (go_at_call 66;refine(zhv _ _ _ _ D).mono ?_;rintro e w' ⟨rfl,rfl⟩)
 first
  |(go_ret;exact⟨rfl,yr _ _⟩)
  |(go_ret;exact⟨rfl,(yr _ _).alloc (yk _) _⟩)
  |(refine yw (v:=.tuple #[.agg #[.slice none 0 0],.int .i64 2]) (by simp[results,Tryz.results62,go_sem]) rfl ⟨rfl,?_⟩;first|exact(yr _ _).alloc (yk _) _|exact((yr _ _).alloc (yk _) _).setCell (by simp) _|exact(((yr _ _).alloc (yk _) _).setCell (by simp) _).drew)
theorem zum{w w' : World}{g n:Nat}(h:zai w (some ⟨g,0,none⟩) (List.replicate n zbb))(I:w'.heap[g]?=w.heap[g]?):zai w' (some ⟨g,0,none⟩) (List.replicate n zbb):=fun i hi=>by
 obtain⟨b,o,e,hn⟩:=h i hi;cases e;have D:i<n:=by simpa using hi
 rw[zfD n i _ D] at hn |-;obtain⟨c0,c1,c2,c3,c4,⟨ka,kc,c5,_⟩,E,F⟩:=hn;have hc:∀ o,w'.cell? ⟨g,o,none⟩=w.cell? ⟨g,o,none⟩:=fun o=>yC I;exact⟨g,0,rfl,(hc _).trans c0,(hc _).trans c1,(hc _).trans c2,(hc _).trans c3,(hc _).trans c4,⟨ka,kc,(hc _).trans c5,fun j J=>absurd J (yx _)⟩,(hc _).trans E,(hc _).trans F⟩
theorem zow{w w' : World}{g:Nat}{H:List (Int × Int)}(h:zau w (some ⟨g,0,none⟩) H)(D:w'.heap[g]?=w.heap[g]?):zau w' (some ⟨g,0,none⟩) H:=fun i hi=>by
 obtain⟨b,o,e,h1,E⟩:=h i hi;cases e;exact⟨g,0,rfl,(yC D).trans h1,(yC D).trans E⟩
theorem zun(n:Nat)(w:World)(hn:n<=24):Calls Tryz.prog 28 #[.int .i64 (n:Int)] w fun e w' => ∃ (a0 a1:Option Addr) (c0:Nat),e=.returned (.tuple #[.agg #[.slice a0 n c0,.slice a1 16 16,.slice none 0 0,.slice none 0 0],.int .i64 0])/\Below w.heap.size w w' /\ St (fun b=>b<w.heap.size) (fun V=>zai V a0 (List.replicate n zbb)/\zau V a1 (List.replicate 16 (0,0))) w' := by
 have D:Hid (∀ U,_):=fun U=>zwZ n (w.alloc U) hn;clear hn;have a6:=zoO
 go_enter Tryz.func28,Tryz.ntmps28
 go_wp2_with fail
 refine yi (D.out _) ?_;rintro e V ⟨g,rfl,F,hn,M,a5⟩;have O:Hid (Below w.heap.size w V):=(zaa w _).trans (F.mono (by simp));have HN:Hid (zai V (some ⟨g,0,none⟩) (List.replicate n zbb)):=hn;simp only[ys] at F M;have I:Hid _:=zeb F;obtain⟨l0,l1,l2,l3,fz,lt⟩:=zaj I.out;clear F D hn
 go_wp2_with fail
 go_region
 go_wp2
 have SL:Hid (SlB V w.heap.size):=zAH I.out ⟨_,_,_,rfl⟩ ⟨_,_,_,rfl⟩ ⟨_,_,_,rfl⟩ ⟨_,_,_,rfl⟩;obtain⟨X,E⟩:∃ X,(((V.setCell ⟨w.heap.size,0,none⟩ (.slice (some ⟨g,0,none⟩) n n)).setCell ⟨w.heap.size,1,none⟩ (.slice (some ⟨V.heap.size+1,0,none⟩) 16 16)).setCell ⟨w.heap.size,2,none⟩ (.slice none 0 0)).setCell ⟨w.heap.size,3,none⟩ (.slice none 0 0)=X:=⟨_,rfl⟩;have x0:X.heap[w.heap.size]?=some (.cells #[.slice (some ⟨g,0,none⟩) n n,.slice (some ⟨V.heap.size+1,0,none⟩) 16 16,.slice none 0 0,.slice none 0 0] 50 (0,0)):=by rw[<- E];exact zcR I.out
 have x1:zai X (some ⟨g,0,none⟩) (List.replicate n zbb):=by rw[<- E];exact HN.out.offB SL.out (zvv.refl _ _).set.set.set.set
 have x2:X.heap.size=V.heap.size:=by rw[<- E];simp
 have Z:Below w.heap.size w X:=by rw[<- E];exact(((O.out.setCell (yk _) _).setCell (yk _) _).setCell (yk _) _).setCell (yk _) _
 rw[E];clear E;have x4:=zrb (X.alloc (Obj.cells #[Value.slice (some ⟨g,0,none⟩) n n] 43));rw[ys,x2] at x4;have J:=(zah X (Obj.cells #[Value.slice (some ⟨g,0,none⟩) n n] 43) (Obj.cells (madeCells #[Value.int IntKind.i64 0,Value.int IntKind.i64 0] 32) 61)).drew;have x5:=zat x0 J;obtain⟨m0,m1,m2,m3,mf,ml⟩:=zaj x5;refine yw (v:=.tuple #[.agg #[.slice (some ⟨g,0,none⟩) n n,.slice (some ⟨V.heap.size+1,0,none⟩) 16 16,.slice none 0 0,.slice none 0 0],.int .i64 0]) (by simp[results,Tryz.results28,go_sem,m0,m1,m2,m3]) rfl ⟨some ⟨g,0,none⟩,some ⟨V.heap.size+1,0,none⟩,n,by simp,Z.trans (J.mono Z.size),fun V' T=>⟨zum (x1.below J) (T.block g (by simp;omega) (by omega)),zow (x4.below (yr _ _).drew) (T.block _ (by simp;omega) (by have:=O.out.size;omega))⟩⟩
theorem zoQ:zkD:=fun p w=>by
 by_cases J:0<=p/\p<=24
 ·have F:zdp p=⟨List.replicate p.toNat zbb,List.replicate 16 (0,0),[],[]⟩:=yd J;have I:zBd p=0:=yd J;rw[F,I];clear F I;obtain⟨n,rfl⟩:∃ n:Nat,p=n:=⟨p.toNat,by omega⟩;rw[yj];refine(zun n w (by omega)).mono ?_;rintro e V ⟨a0,a1,c0,rfl,E,hs⟩;exact⟨⟨a0,a1,none,none,c0,16,0,0⟩,by simp[rlV],E,hs.at.1,hs.at.2,fun _ h=>absurd h (yx _),fun _ h=>absurd h (yx _)⟩
 ·have F:zdp p=zbN:=ya J;have I:zBd p=2:=ya J;rw[F,I];clear F I;have D:Hid (∀ U,_):=fun U=>zza p (w.alloc U) (by omega);clear J
  go_enter Tryz.func28,Tryz.ntmps28
  go_wp2_with fail
  refine yi (D.out _) ?_;rintro e V ⟨rfl,E⟩;have HB:Hid (Below w.heap.size w V):=(zaa w _).trans (E.mono (by simp));simp only[ys] at E;have O:Hid _:=zeb E;obtain⟨l0,l1,l2,l3,fz,lt⟩:=zaj O.out;clear E D
  go_wp2
  obtain⟨X,M⟩:∃ X,(((V.setCell ⟨w.heap.size,0,none⟩ (.slice none 0 0)).setCell ⟨w.heap.size,1,none⟩ (.slice none 0 0)).setCell ⟨w.heap.size,2,none⟩ (.slice none 0 0)).setCell ⟨w.heap.size,3,none⟩ (.slice none 0 0)=X:=⟨_,rfl⟩;have x0:X.heap[w.heap.size]?=some (.cells #[.slice none 0 0,.slice none 0 0,.slice none 0 0,.slice none 0 0] 50 (0,0)):=by rw[<- M];exact zcR O.out
  have Z:Below w.heap.size w X:=by rw[<- M];exact(((HB.out.setCell (yk _) _).setCell (yk _) _).setCell (yk _) _).setCell (yk _) _
  rw[M];clear M;have T:=zaa X (Obj.cells #[Value.slice none 0 0] 43);have x5:=zat x0 T;obtain⟨m0,m1,m2,m3,mf,ml⟩:=zaj x5;refine yw (v:=.tuple #[.agg #[.slice none 0 0,.slice none 0 0,.slice none 0 0,.slice none 0 0],.int .i64 2]) (by simp[results,Tryz.results28,go_sem,m0,m1,m2,m3]) rfl ⟨⟨none,none,none,none,0,0,0,0⟩,rfl,Z.trans (T.mono Z.size),zjH _ _⟩
theorem zcK(A:RA)(R:Rl)(k:Int)(w:World)(hl:R.hs.length=16) :
  Calls Tryz.prog 161 #[rlV A R,.int .i64 k] w fun e w' => e=.returned (.bool (decide (isH k)))/\Below w.heap.size w w' := by
 dsimp only[rlV];rw[hl];have D:Hid (∀ W,Calls _ _ _ _ _):=fun W=>zaR k 0 15 W;have hd:decide (0<=k/\k<=15)=decide (isH k):=rfl;rw[hd] at D;clear hd hl;generalize decide (isH k)=r at *
 go_enter Tryz.func161,Tryz.ntmps161
 go_wp2_with fail
 refine yi (D.out _) ?_;rintro e V ⟨rfl,E⟩;subst E
 go_wp2
 go_ret;exact⟨rfl,zaa _ _⟩
end Go.Proofs.YtcbcpomacdngmaaGreat
