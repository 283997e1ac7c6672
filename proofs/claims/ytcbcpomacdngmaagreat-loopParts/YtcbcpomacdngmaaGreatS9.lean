/-
  x
-/
import Derived.Test.YtcbcpomacdngmaaGreatS6
import Derived.Test.YtcbcpomacdngmaaGreatS8
import Derived.Lib.AppendZerosOnto
import Derived.Lib.SliceRun
import Derived.Lib.Walk
import Derived.Deep.RegionLawGrows
namespace Go.Proofs.YtcbcpomacdngmaaGreat
set_option maxRecDepth 100000
set_option maxHeartbeats 4000000
set_option linter.unusedVariables false
open Go.RowKit
theorem zmT:(Tryz.prog.info? 30).map (fun i=>(i.zero,i.size,i.bytes))=some (some (.int .i64 0),1,8):=by kernel_rfl
theorem zdH{w:World}{ops:Array Oper}{rest:List Oper}{o:Oper}{a:Act}{Q:Exit->Act->World->Prop}(J:o.guard=none)(s x:Operand)
  (ho:o.op=.call { callee:=.builtin .append,args:=#[s,x],argTypes:=#[72,72] })
  (base:Nat) (v:Value) (n:Nat) (U:List Value) (hs:a.eval s=v) (D:w.ownsRow base 30 1 v n U)
  (ka:Option Addr) (m kc:Nat) (ks:List Int) (hx:a.eval x=.slice ka m kc) (hm:ks.length=m) (hI:zaj w ka ks)
  (Z:n+m<=maxLen) (E:(n+m)*8<=140737488355328) (F:base<=w.heap.size)
  (h:∀ T w', w'.ownsRow base 30 1 T (n+m) (U++ks.map (Value.int .i64))->w.grownBy w' v.ownBlock->(v≠.slice none 0 0->T≠.slice none 0 0)->wpList Tryz.prog ops Q rest (a.put o.dst T) w'):wpList Tryz.prog ops Q (o :: rest) a w:=by
 obtain⟨i0,M,a5,a6,a7⟩:=info_parts zmT;subst hm
 cases ka with
 | none =>
  have h0:ks=[]:=by
   cases ks with
   | nil=>rfl
   | cons y l=>obtain⟨b,o,e,_⟩:=hI 0 (by simp);cases e
  subst h0;exact zhk J s x 72 ho base 30 i0 1 Tryz.underlying72 M v n kc U hs D hx (h v w (by simpa using D) (grownBy_refl _ _) id)
 | some ad =>
  exact wpList_append_own w J s x 72 ho base 30 i0 (.int .i64 0) 1 8 Tryz.underlying72 M a5 a6 a7 rfl (by decide) v n U hs D ad ks.length kc (ks.map (Value.int .i64)) hx (by simp) (fun j u I=>by
   rw[List.getElem?_map] at I
   cases hjk:ks[j]? with
   | none=>rw[hjk] at I;cases I
   | some y =>
    rw[hjk] at I;have O:j<ks.length:=(List.getElem?_eq_some_iff.1 hjk).1;obtain⟨b,o,e,hc⟩:=hI j O;cases e;have:ks.getD j 0=y:=(by rw[zae ks 0 O];exact(List.getElem?_eq_some_iff.1 hjk).2);rw[this] at hc;simp at I;subst I;rw[Addr.add_lit];exact hc) (fun u hu=>by obtain⟨y,_,rfl⟩:=List.mem_map.1 hu;rfl) Z E F (fun T w' h2 h3 h4=>h T w' h2 h3 (fun hn e=>hn (h4.1 e).1))
theorem zvL{B:Nat}{F:World}{v:Value}{l:List Int}{n:Nat}(D:F.ownsRow B 30 1 v n (l.map (Value.int .i64))):∃ sa cap,v=.slice sa l.length cap/\zaj F sa l:=by
 have hn:n=l.length:=by have:=D.1;simp at this;omega
 subst hn;obtain⟨hl,h⟩:=D;rcases h with ⟨rfl,h0⟩ |⟨g,cap,E,rfl,_,hg,h1,J,M,I⟩
 ·exact⟨none,0,by rw[h0],fun i hi=>by omega⟩
 ·refine⟨some ⟨g,0,none⟩,cap,rfl,fun i hi=>⟨g,0,rfl,?_⟩⟩
  have h5:(E.toList.take (l.length*1))[i]?=some (.int .i64 (l.getD i 0)):=by
   rw[I,List.getElem?_map,List.getElem?_eq_getElem hi,zae l 0 hi];rfl
  rw[List.getElem?_take,yb (by omega)] at h5;simp only[yB,World.cell?,hg];simpa using h5
theorem zjb{w wr w' : World}{e size n:Nat}{v:Value}{M:List Value}(D:Below w.heap.size w wr)(J:wr.ownsRow w.heap.size e size v n M)(hg:wr.grownBy w' v.ownBlock):Below w.heap.size w w' :=
 D.trans ⟨hg.os,hg.tape,hg.output,hg.size,fun k I=>hg.block k (yz I D.size) (fun e=>by
  rcases J.2 with ⟨rfl,_⟩ |⟨g,cap,E,rfl,F,_⟩
  ·cases e
  ·have:k=g:=Option.some.inj e
   omega)⟩
theorem ztk(n:Nat)(w:World)(hn:n<=1000) :
  yM 58 #[.slice none 0 0,.int .i64 n] w fun e w' => ∃ (ra:Option Addr) (rc:Nat),e=.returned (.slice ra 0 rc)/\Below w.heap.size w w' /\ w'.ownsRow w.heap.size 30 1 (.slice ra 0 rc) 0 []:=by
 rcases Nat.eq_zero_or_pos n with rfl|hp
 ·go_enter Tryz.func58,Tryz.ntmps58
  go_wp2
  go_ret;exact⟨none,0,rfl,yk _ _,by simp,Or.inl ⟨rfl,rfl⟩⟩
 ·obtain⟨i0,I,J,Z,E⟩:=info_parts zmT;have hold:(Builtin.firstCells i0.size 0 (.slice none 0 0)).run Tryz.prog w.drew=.ok ([]:List Value).toArray w.drew:=run_firstCells_none w.drew i0.size 0 0 0;have D:∀ ty,(Builtin.append_ #[72,3] ty #[.slice none 0 0,.int .i64 n]).run Tryz.prog w=_:=fun ty=>Lib.run_append_grow_zeros w 72 3 ty 30 i0 _ .i64 .i64 Tryz.underlying72 Tryz.underlying3 I J none 0 0 [] hold n hp (by omega) (by omega) (by omega) (by rw[E];omega) (growslice_fits (by omega) (by rw[E];omega));have hG:=grownCap_ge w (0+n) 0 30;have M:=grownCap_le_maxLen w (0+n) 0 30 (by unfold maxLen;omega);generalize grownCap w (0+n) 0 30=G at D hG M;have a5:G<=9223372036854775807:=by unfold maxLen at M;omega
  obtain⟨X,U⟩:∃ X,([]:List Value).toArray++Builtin.zeroCells (Value.cells (.int .i64 0)) n++Builtin.zeroCells (Value.cells (.int .i64 0)) (G-(0+n))=X:=⟨_,rfl⟩
  have F:X.size=G:=by
   rw[<- U];simp[Builtin.zeroCells,Value.cells];omega
  rw[U] at D;have O:Hid _:=D;have HM:Hid _:=M;have T:Hid _:=F;clear D M U F hold I J Z E;have h1:¬ ((n:Int)<0):=by omega
  have h4:(n:Int) > 0:=by omega
  have h5:IntKind.i64.wrap (n:Int)=n:=by rw[yI];omega
  go_enter Tryz.func58,Tryz.ntmps58
  go_wp2_with (at_builtin;refine Lib.wpList_append_run _ rfl _ _ _ _ rfl _ _ rfl rfl _ _ (O.out _) ?_)
  all_goals (go_ret;refine⟨_,_,rfl,((yk _ _).drew).alloc (yj _) _,by simp,Or.inr ⟨_,_,X,rfl,yj _,?_,Nat.zero_le _,HM.out,by simpa using T.out,by simp⟩⟩)
  all_goals exact yL _ _
theorem zob(a1 a2:Option Addr)(c1 c2 U:Nat)(I M:List Int)(w:World)(b8:I.length<=200)(b9:M.length<=200)(v1:w.cell? ⟨U,0,none⟩=some (.slice a1 I.length c1))(v2:w.cell? ⟨U,1,none⟩=some (.slice a2 M.length c2))(h1:zaj w a1 I)(h2:zaj w a2 M) :
  yM 23 #[.slice (some ⟨U,0,none⟩) 2 2] w fun e w' => ∃ (ra:Option Addr) (rc:Nat),e=.returned (.slice ra (I++M).length rc)/\Below w.heap.size w w' /\ zaj w' ra (I++M):=by
 have GR:Hid (∀ n W,n<=1000->Calls _ _ _ _ _):=fun n W h=>ztk n W h;have H1:Hid (zaj w a1 I):=h1;have H2:Hid (zaj w a2 M):=h2;have HL:Hid ((I++M).length=I.length+M.length):=List.length_append;obtain⟨D,a9⟩:∃ D,I.length=D:=⟨_,rfl⟩;obtain⟨J,b0⟩:∃ J,M.length=J:=⟨_,rfl⟩;rw[a9] at v1 b8;rw[b0] at v2 b9;have b4:Hid _:=a9;have b5:Hid _:=b0;clear a9 b0 h1 h2;have n1:¬ ((D:Int)<0):=by omega
 have n2:¬ ((D:Int)+J<0):=by omega
 have w1:IntKind.i64.wrap (D:Int)=D:=by rw[yI];omega
 have w2:IntKind.i64.wrap ((D:Int)+J)=(D:Int)+J:=by rw[yI];omega
 go_enter Tryz.func23,Tryz.ntmps23
 go_wp2_with fail
 go_loopg [3,11] 2 (fun g s3 s11 wr=>(g=2/\s3=.int .i64 0/\s11=.int .i64 0\/g=1/\s3=.int .i64 D/\s11=.int .i64 1\/g=0/\s3=.int .i64 ((D:Int)+J)/\s11=.int .i64 2)/\wr=w)
 case atStart=>exact⟨Or.inl ⟨rfl,rfl,rfl⟩,rfl⟩
 case round =>
  obtain⟨h|h|h,hw⟩:=hrel
  ·obtain⟨rfl,rfl,rfl⟩:=h;have T:=hw.symm;clear hw;subst T
   go_wp2_with fail
   go_roundg 1
   case measure=>omega
   case rel=>exact⟨Or.inr (Or.inl ⟨rfl,rfl,rfl⟩),rfl⟩
  ·obtain⟨rfl,rfl,rfl⟩:=h;have T:=hw.symm;clear hw;subst T
   go_wp2_with fail
   go_roundg 0
   case measure=>omega
   case rel=>exact⟨Or.inr (Or.inr ⟨rfl,rfl,rfl⟩),rfl⟩
  ·obtain⟨rfl,rfl,rfl⟩:=h;have T:=hw.symm;clear hw;subst T
   go_wp2_with fail
   have a5:((D:Int)+(J:Int))=((D+J:Nat):Int):=(by omega);rw[a5];refine ye (GR.out (D+J) _ (by omega)) ?_;rintro e w3 ⟨ra,rc,rfl,O,Z⟩;have b3:Hid (Below w.heap.size w w3):=O;have OW:Hid (w3.ownsRow w.heap.size 30 1 (.slice ra 0 rc) 0 []):=Z;have b1:w3.cell? ⟨U,0,none⟩=some (.slice a1 D c1):=zab v1 O;have b2:w3.cell? ⟨U,1,none⟩=some (.slice a2 J c2):=zab v2 O;have b6:Hid _:=v1;have b7:Hid _:=v2;clear O Z v1 v2 GR a5
   go_wp2_with fail
   go_loopg [6,27] 2 (fun g s6 s27 wr=>Below w.heap.size w wr/\(g=2/\s27=.int .i64 0/\Hid (wr.ownsRow w.heap.size 30 1 s6 0 [])\/g=1/\s27=.int .i64 1/\Hid (wr.ownsRow w.heap.size 30 1 s6 D (I.map (Value.int .i64)))\/g=0/\s27=.int .i64 2/\Hid (wr.ownsRow w.heap.size 30 1 s6 (D+J) ((I++M).map (Value.int .i64)))))
   case atStart=>exact⟨b3.out,Or.inl ⟨rfl,rfl,OW⟩⟩
   case round =>
    obtain⟨O,h|h|h⟩:=hrel
    ·obtain⟨rfl,rfl,F⟩:=h;have E:Hid _:=O;have x1:wr.cell? ⟨U,0,none⟩=some (.slice a1 D c1):=zab b6.out O;have xl:U<wr.heap.size:=yd _ _ x1;clear O b1 b2
     go_wp2_with (at_builtin;refine zdH rfl (.tmp 31) (.tmp 32) rfl w.heap.size _ 0 [] rfl F.out a1 D c1 I rfl b4.out (H1.out.below E.out) (by unfold maxLen;omega) (by omega) E.out.size ?_)
     intro v' w' own grow _;have a6:w'.ownsRow w.heap.size 30 1 v' D (I.map (Value.int .i64)):=(by simpa using own);have a8:Hid _:=a6;have a7:Hid (Below w.heap.size w w'):=zjb E.out F.out grow;clear own a6 grow
     go_wp2_with fail
     go_roundg 1
     case measure=>omega
     case rel=>exact⟨a7.out,Or.inr (Or.inl ⟨rfl,rfl,a8⟩)⟩
    ·obtain⟨rfl,rfl,F⟩:=h;have E:Hid _:=O;have x1:wr.cell? ⟨U,1,none⟩=some (.slice a2 J c2):=zab b7.out O;have xl:U<wr.heap.size:=yd _ _ x1;clear O b1 b2
     go_wp2_with (at_builtin;refine zdH rfl (.tmp 31) (.tmp 32) rfl w.heap.size _ D _ rfl F.out a2 J c2 M rfl b5.out (H2.out.below E.out) (by unfold maxLen;omega) (by omega) E.out.size ?_)
     intro v' w' own grow _;have a8:Hid (w'.ownsRow w.heap.size 30 1 v' (D+J) ((I++M).map (Value.int .i64))):=(by rw[List.map_append];exact own);have a7:Hid (Below w.heap.size w w'):=zjb E.out F.out grow;clear own grow
     go_wp2_with fail
     go_roundg 0
     case measure=>omega
     case rel=>exact⟨a7.out,Or.inr (Or.inr ⟨rfl,rfl,a8⟩)⟩
    ·obtain⟨rfl,rfl,F⟩:=h;obtain⟨sa,cap,rfl,hI⟩:=zvL F.out;have HI:Hid _:=hI;clear b1 b2 hI
     go_wp2
     go_ret;exact⟨_,_,rfl,O,HI.out⟩
theorem zzZ:(Tryz.prog.info? 61).map (fun i=>(i.zero,i.size,i.bytes))=some (some (.agg #[.int .i64 0,.int .i64 0]),2,16):=by kernel_rfl
theorem ziw(ha:Option Addr)(hc:Nat)(hs:List (Int × Int))(p u:Int)(w:World)(J:hs.length<=9223372036854775807)(D:zas w ha hs) :
  yM 206 #[.slice ha hs.length hc,.agg #[.int .i64 p,.int .i64 u]] w fun e w' => e=.returned (.bool (decide ((p,u) ∈ hs)))/\Below w.heap.size w w' := by
 have d1:=fun F=>zor ha hc hs p u (w.alloc F) J (D.below ((yk _ _).alloc (yj _) F))
 have R:Hid (∀ r:Int,((0<=r)↔(p,u) ∈ hs)->decide (0<=r)=decide ((p,u) ∈ hs)):=fun r h=>by
  by_cases e:(p,u) ∈ hs
  ·rw[yG e,yG (h.2 e)]
  ·rw[yF e,yF (fun x=>e (h.1 x))]
 clear D;generalize decide ((p,u) ∈ hs)=q at *;generalize ((p,u) ∈ hs)=Q at *;generalize hs.length=m at *
 go_enter Tryz.func206,Tryz.ntmps206
 go_wp2_with (go_at_call 216;refine(d1 _).mono ?_;rintro e O ⟨r,rfl,M,E⟩;have I:Hid _:=E;clear E)
 go_ret;refine⟨?_,((yk _ _).alloc (yj _) _).trans (M.mono (by simp))⟩;rw[<- R.out r I.out];rfl
theorem zct{w D:World}{a:Option Addr}{n c:Nat}{p F x I:Int}(E:Below (w.heap.size+1+1+1+1) ((((w.alloc (.cells #[.slice a n c] 43)).alloc (.cells #[.int .i64 p,.int .i64 F] 61)).alloc (.cells #[.int .i64 x,.int .i64 I] 61)).alloc (.cells #[.slice none 0 0] 43)) D) :
  D.cell? ⟨w.heap.size,0,none⟩=some (.slice a n c)/\D.cell? ⟨w.heap.size+1,0,none⟩=some (.int .i64 p)/\D.cell? ⟨w.heap.size+1,1,none⟩=some (.int .i64 F)/\D.cell? ⟨w.heap.size+1+1,0,none⟩=some (.int .i64 x)/\D.cell? ⟨w.heap.size+1+1,1,none⟩=some (.int .i64 I)/\D.cell? ⟨w.heap.size+1+1+1,0,none⟩=some (.slice none 0 0)/\(∀ o,D.frozen? ⟨w.heap.size+1+1+1,o,none⟩=false):=by
 refine⟨?_,?_,?_,?_,?_,?_,fun o=>?_⟩
 ·exact(E.cell (by first|(simp;done)|(simp;omega))).trans (by go_simp)
 ·exact(E.cell (by first|(simp;done)|(simp;omega))).trans (by go_simp)
 ·exact(E.cell (by first|(simp;done)|(simp;omega))).trans (by go_simp)
 ·exact(E.cell (by first|(simp;done)|(simp;omega))).trans (by go_simp)
 ·exact(E.cell (by first|(simp;done)|(simp;omega))).trans (by go_simp)
 ·exact(E.cell (by first|(simp;done)|(simp;omega))).trans (by go_simp)
 ·exact(E.frozen (by first|(simp;done)|(simp;omega))).trans (by go_simp)
theorem zaH(w:World)(D E o3 F:Obj):Below w.heap.size w ((((w.alloc D).alloc E).alloc o3).alloc F):=(zar w D E o3).alloc (by simp;omega) _
theorem zcM{E:World}{p:Addr}{v:Value}(h:E.cell? p=some v)(D:Obj):(E.alloc D).cell? p=some v :=
 (((yk _ _).alloc (yj _) D).cell (yd _ _ h)).trans h
theorem zmQ(W:World)(b:Nat)(p u x y:Int)(h1:W.cell? ⟨b,0,none⟩=some (.int .i64 p))(D:W.cell? ⟨b,1,none⟩=some (.int .i64 u))(E:W.cell? ⟨b,2,none⟩=some (.int .i64 x))(F:W.cell? ⟨b,3,none⟩=some (.int .i64 y)):zas W (some ⟨b,0,none⟩) [(p,u),(x,y)]:=fun i hi=>by
 match i,hi with
 | 0,_=>exact⟨b,0,rfl,by simpa using h1,by simpa using D⟩
 | 1,_=>exact⟨b,0,rfl,by simpa using E,by simpa using F⟩
theorem zfK{w D:World}{v:Value}{x y:Int}(E:Below (w.heap.size+1+1+1) (((w.alloc (.cells #[v] 43)).alloc (.cells #[.int .i64 x,.int .i64 y] 61)).alloc (.cells #[.bool false,.int .i64 0,.int .i64 0,.int .i64 0,.int .i64 0,.slice none 0 0,.int .i64 0,.bool false] 57)) D) :
  (D.cell? ⟨w.heap.size,0,none⟩=some v/\D.cell? ⟨w.heap.size+1,0,none⟩=some (.int .i64 x)/\D.cell? ⟨w.heap.size+1,1,none⟩=some (.int .i64 y)) /\
  (D.cell? ⟨w.heap.size+1+1,0,none⟩=some (.bool false)/\D.cell? ⟨w.heap.size+1+1,1,none⟩=some (.int .i64 0)/\D.cell? ⟨w.heap.size+1+1,2,none⟩=some (.int .i64 0)/\D.cell? ⟨w.heap.size+1+1,3,none⟩=some (.int .i64 0)/\D.cell? ⟨w.heap.size+1+1,4,none⟩=some (.int .i64 0)/\D.cell? ⟨w.heap.size+1+1,5,none⟩=some (.slice none 0 0)/\D.cell? ⟨w.heap.size+1+1,6,none⟩=some (.int .i64 0)/\D.cell? ⟨w.heap.size+1+1,7,none⟩=some (.bool false)) /\
  (∀ o,D.frozen? ⟨w.heap.size+1+1,o,none⟩=false)/\Below w.heap.size w D:=by
 refine⟨⟨?_,?_,?_⟩,⟨?_,?_,?_,?_,?_,?_,?_,?_⟩,fun o=>?_,(zar _ _ _ _).trans (E.mono (by omega))⟩
 all_goals first|exact(E.cell (by first|(simp;done)|(simp;omega))).trans (by go_simp)|exact(E.frozen (by first|(simp;done)|(simp;omega))).trans (by go_simp)
def zaG(S:List Nd)(p u:Int):Int:=if zbo S=0 then zda S p u else zbo S
theorem zfL{S:List Nd}{p u:Int}(h:zaG S p u=0):zbo S=0/\zda S p u=0:=by
 unfold zaG at h;by_cases hc:zbo S=0
 ·rw[yb hc] at h;exact⟨hc,h⟩
 ·rw[ya hc] at h;exact absurd h hc
theorem ziC(a:Option Addr)(c:Nat)(S:List Nd)(p u E:Int)(w:World)(hN:S.length<=9223372036854775807)(hB:Big S)(hS:zai w a S)(I:zaG S p u=E)(a5:E≠0) :
  yM 14 #[.agg #[.slice a S.length c],.agg #[.int .i64 p,.int .i64 u]] w fun e w' => e=.returned (.tuple #[.agg #[.bool false,.int .i64 0,.int .i64 0,.int .i64 0,.int .i64 0,.slice none 0 0,.int .i64 0,.bool false],.int .i64 E])/\Below w.heap.size w w' := by
 have d0:=fun W hW=>zdW a c S W hN hB hW;have d1:=fun W hW=>zjd a c S p u W hN hW;have HS:Hid (zai w a S):=hS;have hz:(E == 0)=false:=by simp[a5]
 unfold zaG at I;by_cases hc:zbo S=0
 ·rw[yb hc] at I;rw[I] at d1;rw[hc] at d0;have D0:Hid _:=d0;have D1:Hid _:=d1;clear hS d0 d1 I hB hc;generalize S.length=n at *
  go_enter Tryz.func14,Tryz.ntmps14
  go_wp2_with (go_at_call 42;refine(D0.out _ (HS.out.below (zar _ _ _ _))).mono ?_;rintro e w1 ⟨rfl,D⟩;simp only[yr] at D;obtain⟨⟨l0,l1,l2⟩,⟨U,Z,z2,z3,z4,z5,z6,z7⟩,J,F⟩:=zfK D)
  refine(D1.out _ (HS.out.below F)).mono ?_;rintro e w2 ⟨rfl,O⟩;have T:=D.size;simp only[yr] at T;have M:=D.trans (O.mono T);clear l0 l1 l2 U Z z2 z3 z4 z5 z6 z7 J F D O;obtain⟨⟨l0,l1,l2⟩,⟨U,Z,z2,z3,z4,z5,z6,z7⟩,J,F⟩:=zfK M
  go_wp2
  refine yw (v:=.tuple #[.agg #[.bool false,.int .i64 0,.int .i64 0,.int .i64 0,.int .i64 0,.slice none 0 0,.int .i64 0,.bool false],.int .i64 E]) (by simp[results,Tryz.results14,go_sem,U,Z,z2,z3,z4,z5,z6,z7]) rfl ⟨rfl,?_⟩;exact(((((((F.setCell (by simp;omega) _).setCell (by simp;omega) _).setCell (by simp;omega) _).setCell (by simp;omega) _).setCell (by simp;omega) _).setCell (by simp;omega) _).setCell (by simp;omega) _).setCell (by simp;omega) _
 ·rw[ya hc] at I;rw[I] at d0;have D0:Hid _:=d0;clear hS d0 d1 I hB hc;generalize S.length=n at *
  go_enter Tryz.func14,Tryz.ntmps14
  go_wp2_with (go_at_call 42;refine(D0.out _ (HS.out.below (zar _ _ _ _))).mono ?_;rintro e w1 ⟨rfl,D⟩;simp only[yr] at D;obtain⟨⟨l0,l1,l2⟩,⟨U,Z,z2,z3,z4,z5,z6,z7⟩,J,F⟩:=zfK D)
  refine yw (v:=.tuple #[.agg #[.bool false,.int .i64 0,.int .i64 0,.int .i64 0,.int .i64 0,.slice none 0 0,.int .i64 0,.bool false],.int .i64 E]) (by simp[results,Tryz.results14,go_sem,U,Z,z2,z3,z4,z5,z6,z7]) rfl ⟨rfl,?_⟩;exact(((((((F.setCell (by simp;omega) _).setCell (by simp;omega) _).setCell (by simp;omega) _).setCell (by simp;omega) _).setCell (by simp;omega) _).setCell (by simp;omega) _).setCell (by simp;omega) _).setCell (by simp;omega) _
theorem find_ok(a:Option Addr)(c:Nat)(S:List Nd)(k:Nat)(u:Int)(w:World)(hN:S.length<=9223372036854775807)(hB:Big S)(hS:zai w a S)(hk:k<S.length)(hE:zaG S k u=0)(hK:(nd S k).ks.length<=1000000) :
  yM 14 #[.agg #[.slice a S.length c],.agg #[.int .i64 k,.int .i64 u]] w fun e w' => ∃ g,e=.returned (.tuple #[.agg #[.bool (nd S k).u,.int .i64 (nd S k).n,.int .i64 (nd S k).t,.int .i64 (nd S k).m,.int .i64 (nd S k).p,.slice (some ⟨g,0,none⟩) (nd S k).ks.length (nd S k).ks.length,.int .i64 (nd S k).h,.bool (nd S k).c],.int .i64 0])/\Below w.heap.size w w' /\ zaj w' (some ⟨g,0,none⟩) (nd S k).ks:=by
 have d1:=fun W Z=>zjd a c S k u W hN Z;rw[(zfL hE).2] at d1;have D1:Hid _:=d1;have d0:=fun W Z=>zdW a c S W hN hB Z;rw[(zfL hE).1] at d0;have D0:Hid _:=d0;have HS:Hid (zai w a S):=hS;have d2:=fun ka kc W Z=>zid (nd S k) ka kc W hK Z;have D2:Hid _:=d2;have NX:Hid (∀ w1,Below w.heap.size w w1->∃ b o,a=some ⟨b,o,none⟩/\zvh w1 b (o+k*8) (nd S k)):=fun w1 h1=>(hS.below h1) k hk;have b2:(k:Int)<(S.length:Int):=by omega
 have IR:Hid (∀ (W:World) g,W.rowIs g 3 (nd S k).ks.length (fun j=>.int .i64 ((nd S k).ks.getD j 0))->zaj W (some ⟨g,0,none⟩) (nd S k).ks):=fun W g h=>zbN h (yj _) (fun _ _=>rfl);clear hS d0 d1 d2 hE hK hB;generalize nd S k=x at *;obtain⟨xu,xn,xt,xm,xp,a9,xh,xc⟩:=x;unfold zvh at NX;dsimp only at *;generalize hL:a9.length=L at *;have HL:Hid _:=hL;clear hL;generalize S.length=n at *
 go_enter Tryz.func14,Tryz.ntmps14
 go_wp2_with (go_at_call 42;refine(D0.out _ (HS.out.below (zar _ _ _ _))).mono ?_;rintro e w0 ⟨rfl,D⟩;simp only[yr] at D;obtain⟨⟨l0,l1,l2⟩,⟨z0,z1,z2,z3,z4,z5,z6,z7⟩,F,M⟩:=zfK D)
 refine(D1.out _ (HS.out.below M)).mono ?_;rintro e w1 ⟨rfl,I⟩;have a7:=D.size;simp only[yr] at a7;have T:=D.trans (I.mono a7);clear l0 l1 l2 z0 z1 z2 z3 z4 z5 z6 z7 F M D I;obtain⟨⟨l0,l1,l2⟩,⟨z0,z1,z2,z3,z4,z5,z6,z7⟩,F,E⟩:=zfK T;obtain⟨b,o,rfl,c0,c1,c2,c3,c4,⟨ka,kc,c5,a6⟩,c6,c7⟩:=NX.out _ E;have b1:Hid _:=a6;have U:Hid _:=T;clear a6 T E
 go_wp2_with fail
 refine(D2.out ka kc _ b1.out).mono ?_;rintro e w2 ⟨g,rfl,a5,hg,O⟩;have a8:=U.out.size;simp only[yr] at a8;have J:=U.out.trans (a5.mono a8);clear l0 l1 l2 z0 z1 z2 z3 z4 z5 z6 z7 F c0 c1 c2 c3 c4 c5 c6 c7;obtain⟨⟨l0,l1,l2⟩,⟨z0,z1,z2,z3,z4,z5,z6,z7⟩,F,E⟩:=zfK J;have b0:Hid _:=E;have HR:Hid (w2.rowIs g 3 L (fun j=>.int .i64 (a9.getD j 0))):=O;clear a5 J E O
 go_wp2
 refine yw (v:=.tuple #[.agg #[.bool xu,.int .i64 xn,.int .i64 xt,.int .i64 xm,.int .i64 xp,.slice (some ⟨g,0,none⟩) L L,.int .i64 xh,.bool xc],.int .i64 0]) (by simp[results,Tryz.results14,go_sem,z0,z1,z2,z3,z4,z5,z6,z7]) rfl ⟨g,rfl,?_,?_⟩
 ·exact(((((((b0.out.setCell (by simp;omega) _).setCell (by simp;omega) _).setCell (by simp;omega) _).setCell (by simp;omega) _).setCell (by simp;omega) _).setCell (by simp;omega) _).setCell (by simp;omega) _).setCell (by simp;omega) _
 ·refine IR.out _ g ?_;exact(((((((HR.out.setOther (by simp;omega) _).setOther (by simp;omega) _).setOther (by simp;omega) _).setOther (by simp;omega) _).setOther (by simp;omega) _).setOther (by simp;omega) _).setOther (by simp;omega) _).setOther (by simp;omega) _
theorem WF.leaveG{S:List Nd}(h:WF S){D:Nat}(hch:D<S.length):WF (leaveG S D):=by
 unfold Go.Proofs.YtcbcpomacdngmaaGreat.leaveG;split
 ·exact h
 ·rename_i E;obtain⟨pa,e,_⟩:=h.parent_place hch E;rw[e,yi];exact h.leave hch e
theorem zfQ(S:List Nd)(D j:Nat):(nd (leaveG S D) j).u=(nd S j).u/\(nd (leaveG S D) j).n=(nd S j).n/\(nd (leaveG S D) j).h=(nd S j).h/\(nd (leaveG S D) j).t=(nd S j).t/\(nd (leaveG S D) j).m=(nd S j).m/\(nd (leaveG S D) j).c=(nd S j).c:=by
 unfold leaveG;split
 ·exact⟨rfl,rfl,rfl,rfl,rfl,rfl⟩
 ·exact zgv S _ D j
theorem zlG(S:List Nd){D j:Nat}(E:j<S.length):(nd (leaveG S D) j).p=if j=D then -1 else (nd S j).p:=by
 unfold leaveG;split
 ·rename_i h;split
  ·rename_i e;rw[e];exact h
  ·rfl
 ·exact zhE S E
theorem zmX{S:List Nd}{pa D:Nat}(hpa:pa<S.length)(I:zbs S pa D=false):zbs (leaveG S D) pa D=false:=by
 cases hb:zbs (leaveG S D) pa D with
 | false=>rfl
 | true =>
  have hl:=zbh S D;obtain⟨j,O,J,T⟩:=zfX (by rw[hl];exact hpa) hb;rw[hl] at J
  have:Up S j pa D:=zmd hl (fun y M z E=>by
   unfold zam at *;rw[(zfQ S D y).2.2.1,zlG S M] at E;by_cases F:y=D
   ·subst F;rw[yb rfl] at E;by_cases hh:(nd S y).h = -1
    ·rw[yb hh] at E;omega
    ·rw[ya hh] at E |-;exact E
   ·rw[ya F] at E;exact E) hpa T
  rw[zqh hpa O J this] at I;cases I
theorem zkI{S:List Nd}{D pa:Nat}(h:ziZ S D pa=true):(nd S D).h = -1/\pa≠D/\zbs S pa D=false:=by
 unfold ziZ at h;simp only[Bool.and_eq_true,Bool.not_eq_true', decide_eq_true_eq,decide_eq_false_iff_not] at h;exact⟨h.1,fun e=>h.2.1 (by rw[e]),h.2.2⟩
structure zzm (S:List Nd) (pa ch:Nat):Prop where
 wf:WF S
 hpa:pa<S.length
 hch:ch<S.length
 hpu:(nd S pa).u=true
 hcu:(nd S ch).u=true
 fits:ziZ S ch pa=true
theorem zzm.insert{S:List Nd}{pa D:Nat}(h:zzm S pa D)(at' : Nat):WF (zbm (leaveG S D) pa D at'):=by
 obtain⟨f1,f2,f3⟩:=zkI h.fits;have hl:=zbh S D;refine(h.wf.leaveG h.hch).enter (by rw[hl];exact h.hpa) (by rw[hl];exact h.hch) ?_ ?_ ?_ ?_ f2 (zmX h.hpa f3)
 ·rw[(zfQ S D pa).1];exact h.hpu
 ·rw[(zfQ S D D).1];exact h.hcu
 ·rw[zlG S h.hch,yb rfl]
 ·rw[(zfQ S D D).2.2.1];exact f1
theorem zzV{ks:List Int}{v:Int}(h:v ∈ ks):∃ k:Nat,idx ks v=k/\k<ks.length/\ks.getD k 0=v:=by
 refine⟨ks.idxOf v,by unfold idx;rw[yb h],List.idxOf_lt_length_of_mem h,?_⟩;rw[zae ks 0 (List.idxOf_lt_length_of_mem h)];exact List.getElem_idxOf (List.idxOf_lt_length_of_mem h)
theorem zzm.ahead{S:List Nd}{pa D q:Nat}(h:zzm S pa D)(I:q<S.length)(F:(nd S q).p=pa)(E:q≠D):∃ at' : Nat,idx (nd (leaveG S D) pa).ks q=at' /\ at' < (nd (leaveG S D) pa).ks.length/\(nd (leaveG S D) pa).ks.getD at' 0=q:=by
 have hl:=zbh S D;have:=(h.wf.leaveG h.hch).in_kids (k:=q) (y:=pa) (by rw[hl];exact I) (by rw[zlG S I,ya E];exact F);exact zzV this.2
theorem WF.kids_small{S:List Nd}(h:WF S){i:Nat}(hi:i<S.length):(nd S i).ks.length<=24:=by
 have h1:=h.kids_nodup hi
 have:=h1.length_le_of_subset (l₂:=(List.range S.length).map (fun k:Nat=>(k:Int))) (fun x E=>by
  obtain⟨k,rfl,D,_⟩:=h.kid hi E;exact List.mem_map.2 ⟨k,List.mem_range.2 D,rfl⟩)
 rw[List.length_map,List.length_range] at this;exact yH this h.small
theorem WF.big{S:List Nd}(h:WF S):Big S:=fun _ hi=>yH (h.kids_small hi) (by omega)
theorem zqP{S:List Nd}{k:Nat}{u:Int}(E:k<S.length)(F:(nd S k).u=true)(hn:(nd S k).n=u)(h:WF S):zda S k u=0:=by
 have h1:=(zbd (h.node k E)).1;have D:=(zbd (h.node k E)).2.2;unfold zec at D;rw[yb F] at D;unfold zcS at h1;simp only[Bool.and_eq_true,decide_eq_true_eq] at h1;have I:(nd S k).n≠0:=fun e=>by rw[yb e] at D;cases D
 unfold zda;rw[yb (show zij S.length (k:Int)=true from yG ⟨by omega,by omega⟩),yi];unfold ztq;rw[yb (yG ⟨by omega,by omega⟩),yb F,yb hn]
theorem zuT{S:List Nd}{k:Nat}{u:Int}(D:k<S.length)(E:(nd S k).u=true)(hn:(nd S k).n=u)(h:WF S):zaY S [((k:Int),u)]=0:=by
 unfold zaY;rw[yb ((zfC S).2 h),zmP];exact zqP D E hn h
structure Tst where
 t:Int
 m:Int
 near:Bool
def zxn(T M:Int)(x:Nd):Bool:=(decide (T = -1000001) || decide (T=x.t)) && (decide (M = -1000001) || decide (M=x.m))
def zbk(near:Bool):(Nat->Bool) × List Int->Int->((Nat->Bool) × List Int) × Bool:=fun st x =>
 if st.1 x.toNat then (st,false) else ((fun j=>if j=x.toNat then true else st.1 j,st.2++[x]),!near)
theorem zdM{near:Bool}{st:(Nat->Bool) × List Int}{y:Nat}(h:st.1 y=true):zbk near st (y:Int)=(st,false):=by
 unfold zbk;rw[yi,yb h]
theorem zey{near:Bool}{st:(Nat->Bool) × List Int}{y:Nat}(h:st.1 y=false):zbk near st (y:Int)=((fun j=>if j=y then true else st.1 j,st.2++[(y:Int)]),!near):=by
 unfold zbk;rw[yi,ya (by rw[h];exact Bool.false_ne_true)]
def zgK(S:List Nd)(near:Bool)(st:(Nat->Bool) × List Int)(place:Int):(Nat->Bool) × List Int :=
 if zij S.length place then zbA S Nd.p (zbk near) S.length (nd S place.toNat).p st else st
def zdL(S:List Nd)(near:Bool)(places:List Int):(Nat->Bool) × List Int:=places.foldl (zgK S near) (fun _=>false,[])
def zcN(S:List Nd)(near:Bool)(places:List Int):List Int:=(zdL S near places).2
theorem zmm(S:List Nd)(near:Bool)(places:List Int)(k:Nat)(h:k<places.length):zdL S near (places.take (k+1))=zgK S near (zdL S near (places.take k)) (places.getD k 0):=by
 unfold zdL;rw[List.take_add_one,List.foldl_append,List.getElem?_eq_getElem h,zae places 0 h];rfl
def zgD(S:List Nd)(te:Tst)(ps:List Int):List Int:=flt (fun x=>!zxn te.t te.m (nd S x.toNat)) ps
def zrS(S:List Nd):List Tst->List Int->List Int
 | [],ps=>ps
 | [te],ps=>zgD S te ps
 | te :: D :: r,ps=>zrS S (D :: r) (zcN S te.near (zgD S te ps))
def zeG(S:List Nd)(place:Int)(q:List Tst):Bool:=decide (0<(zrS S q.reverse [place]).length)
def PUp(S:List Nd):Nat->Nat->Nat->Prop
 | 0,x,p=>x=p
 | j+1,x,p=>∃ y:Nat,y<S.length/\(nd S x).p=y/\PUp S j y p
theorem PUp.up{S:List Nd}(h:WF S):∀ {j x y:Nat},x<S.length->PUp S j x y->Up S j x y
 | 0,_,_,_,F=>F
 | j+1,x,y,I,⟨z,h1,D,E⟩=>by
  refine⟨z,h1,?_,PUp.up h h1 E⟩;unfold zam;rw[yb (h.host_of_parent I (by omega)).1];exact D
structure Con (S:List Nd) (st:(Nat->Bool) × List Int):Prop where
 mem:∀ x ∈ st.2,∃ k:Nat,x=k/\k<S.length/\st.1 k=true
 all:∀ k,st.1 k=true->k<S.length/\(k:Int) ∈ st.2
theorem Con.iff{S:List Nd}{st:(Nat->Bool) × List Int}(h:Con S st)(k:Nat):(k:Int) ∈ st.2↔st.1 k=true:=by
 constructor
 ·intro D;obtain⟨k', e,_,hs⟩:=h.mem _ D;have:k' = k:=by omega
  rw[<- this];exact hs
 ·intro hs;exact(h.all k hs).2
theorem Con.add{S:List Nd}{st:(Nat->Bool) × List Int}(h:Con S st){k:Nat}(I:k<S.length):Con S (fun j=>if j=k then true else st.1 j,st.2++[(k:Int)]):=by
 refine⟨fun x D=>?_,fun j F=>?_⟩
 ·rcases List.mem_append.1 D with D|D
  ·obtain⟨i,e,h1,E⟩:=h.mem x D;refine⟨i,e,h1,?_⟩;dsimp only;split
   ·rfl
   ·exact E
  ·exact⟨k,by simpa using D,I,yb rfl⟩
 ·dsimp only at F
  split at F
  ·rename_i e;subst e;exact⟨I,by simp⟩
  ·obtain⟨h1,E⟩:=h.all j F;exact⟨h1,List.mem_append.2 (Or.inl E)⟩
def ClU(S:List Nd)(st:(Nat->Bool) × List Int)(y:Int):Prop:=∀ a,st.1 a=true->∀ b:Nat,(nd S a).p=b->b<S.length->st.1 b=true\/(b:Int)=y
theorem ClU.up{S:List Nd}{st:(Nat->Bool) × List Int}(h:∀ a,st.1 a=true->∀ b:Nat,(nd S a).p=b->b<S.length->st.1 b=true):∀ {j x z:Nat},st.1 x=true->PUp S j x z->st.1 z=true
 | 0,_,_,D,I=>by cases I;exact D
 | _+1,_,_,D,⟨y,h1,E,F⟩=>ClU.up h (h _ D y E h1) F
theorem zmu{S:List Nd}:∀ (f:Nat) (y:Int) (st:(Nat->Bool) × List Int),Con S st->ClU S st y->(∀ D:Nat,y=D->D<S.length->∀ j z,PUp S j D z->j<f) ->
  Con S (zbA S Nd.p (zbk false) f y st)/\(∀ a,(zbA S Nd.p (zbk false) f y st).1 a=true->∀ b:Nat,(nd S a).p=b->b<S.length->(zbA S Nd.p (zbk false) f y st).1 b=true) /\
  ∀ z,(zbA S Nd.p (zbk false) f y st).1 z=true↔st.1 z=true\/∃ (D j:Nat),y=D/\D<S.length/\PUp S j D z
 | 0,y,st,hc,F,hf=>by
  have hn:∀ D:Nat,y=D->¬ D<S.length:=fun D e Z=>by have:=hf D e Z 0 D rfl;omega
  refine⟨hc,fun a ha b J E=>?_,fun z=>⟨Or.inl,fun h=>?_⟩⟩
  ·rcases F a ha b J E with h|h
   ·exact h
   ·exact absurd E (hn b h.symm)
  ·rcases h with h |⟨D,j,e,Z,_⟩
   ·exact h
   ·exact absurd Z (hn D e)
 | f+1,y,st,hc,F,hf=>by
  simp only[zbA];by_cases hp:zij S.length y=true
  ·have hq:0<=y/\y<=(S.length:Int)-1:=of_decide_eq_true hp;obtain⟨D,rfl⟩:∃ k:Nat,y=(k:Int):=⟨y.toNat,by omega⟩;have I:D<S.length:=(by omega);rw[yb hp]
   cases hs:st.1 D with
   | true =>
    rw[zdM hs];simp only[Bool.false_eq_true,if_false]
    have M:∀ a,st.1 a=true->∀ b:Nat,(nd S a).p=b->b<S.length->st.1 b=true:=fun a ha b J E=>by
     rcases F a ha b J E with h|h
     ·exact h
     ·have:b=D:=(by omega);rw[this];exact hs
    refine⟨hc,M,fun z=>⟨Or.inl,fun h=>?_⟩⟩;rcases h with h |⟨U,j,e,_,O⟩
    ·exact h
    ·have:U=D:=(by omega);subst this;exact ClU.up M hs O
   | false =>
    rw[zey hs];simp only[Bool.not_false,if_true,yi]
    obtain⟨g1,g2,g3⟩:=zmu f (nd S D).p (fun j=>if j=D then true else st.1 j,st.2++[(D:Int)]) (hc.add I) (fun a ha b J E=>by
     dsimp only at ha |-;by_cases e:a=D
     ·subst e;exact Or.inr J.symm
     ·rw[ya e] at ha;rcases F a ha b J E with h|h
      ·left;split
       ·rfl
       ·exact h
      ·left;rw[yb (by omega)]) (fun U e T j z O=>by
     have:=hf D rfl I (j+1) z ⟨U,T,e,O⟩
     omega)
    refine⟨g1,g2,fun z=>?_⟩;rw[g3 z];dsimp only;constructor
    ·rintro(h |⟨U,j,e,T,O⟩)
     ·by_cases ez:z=D
      ·exact Or.inr ⟨D,0,rfl,I,ez.symm⟩
      ·rw[ya ez] at h;exact Or.inl h
     ·exact Or.inr ⟨D,j+1,rfl,I,⟨U,T,e,O⟩⟩
    ·rintro(h |⟨U,j,e,_,O⟩)
     ·left;split
      ·rfl
      ·exact h
     ·have:U=D:=(by omega);subst this
      cases j with
      | zero=>left;rw[yb O.symm]
      | succ j =>
       obtain⟨y2,h1,h2,h3⟩:=O;exact Or.inr ⟨y2,j,h2,h1,h3⟩
  ·rw[ya hp];have hn:∀ D:Nat,y=D->¬ D<S.length:=fun D e Z=>hp (yG ⟨by omega,by omega⟩);refine⟨hc,fun a ha b J E=>?_,fun z=>⟨Or.inl,fun h=>?_⟩⟩
   ·rcases F a ha b J E with h|h
    ·exact h
    ·exact absurd E (hn b h.symm)
   ·rcases h with h |⟨D,j,e,Z,_⟩
    ·exact h
    ·exact absurd Z (hn D e)
theorem zqu{S:List Nd}{f:Nat}(J:0<f)(y:Int)(st:(Nat->Bool) × List Int)(hc:Con S st) :
  Con S (zbA S Nd.p (zbk true) f y st)/\∀ z,(zbA S Nd.p (zbk true) f y st).1 z=true↔st.1 z=true\/(y=z/\z<S.length):=by
 obtain⟨f,rfl⟩:∃ g,f=g+1:=⟨f-1,by omega⟩;simp only[zbA];by_cases D:zij S.length y=true
 ·have M:0<=y/\y<=(S.length:Int)-1:=of_decide_eq_true D;obtain⟨E,rfl⟩:∃ k:Nat,y=(k:Int):=⟨y.toNat,by omega⟩;have F:E<S.length:=by omega
  rw[yb D]
  cases hs:st.1 E with
  | true =>
   rw[zdM hs];simp only[Bool.false_eq_true,if_false];refine⟨hc,fun z=>⟨Or.inl,fun h=>?_⟩⟩;rcases h with h |⟨e,_⟩
   ·exact h
   ·have:z=E:=(by omega);rw[this];exact hs
  | false =>
   rw[zey hs];simp only[Bool.not_true,Bool.false_eq_true,if_false];refine⟨hc.add F,fun z=>?_⟩;constructor
   ·intro h;by_cases I:z=E
    ·exact Or.inr ⟨by rw[I],by omega⟩
    ·rw[ya I] at h;exact Or.inl h
   ·rintro(h |⟨e,_⟩)
    ·split
     ·rfl
     ·exact h
    ·rw[yb (by omega)]
 ·rw[ya D];refine⟨hc,fun z=>⟨Or.inl,fun h=>?_⟩⟩;rcases h with h |⟨e,O⟩
  ·exact h
  ·exact absurd (yG ⟨by omega,by omega⟩) D
def Abv(S:List Nd)(near:Bool)(k x:Nat):Prop:=if near then (nd S k).p=x/\x<S.length else ∃ (D j:Nat),(nd S k).p=D/\D<S.length/\PUp S j D x
theorem zgi{S:List Nd}(h:WF S)(near:Bool):∀ (ps:List Int) (st:(Nat->Bool) × List Int),(∀ x ∈ ps,∃ k:Nat,x=k/\k<S.length)->Con S st->(near=false->∀ a,st.1 a=true->∀ b:Nat,(nd S a).p=b->b<S.length->st.1 b=true) ->
  Con S (ps.foldl (zgK S near) st)/\∀ z,(ps.foldl (zgK S near) st).1 z=true↔st.1 z=true\/∃ k:Nat,(k:Int) ∈ ps/\Abv S near k z
 | [],st,_,hc,_=>⟨hc,fun z=>⟨Or.inl,fun h=>by
   rcases h with h |⟨k,hk,_⟩
   ·exact h
   ·cases hk⟩⟩
 | x :: ps,st,F,hc,O=>by
  obtain⟨k,rfl,hk⟩:=F x (by simp);have T:zij S.length (k:Int)=true:=yG ⟨by omega,by omega⟩;simp only[List.foldl_cons]
  have e:zgK S near st (k:Int)=zbA S Nd.p (zbk near) S.length (nd S k).p st:=by
   unfold zgK;rw[yb T,yi]
  rw[e]
  cases near with
  | true =>
   obtain⟨g1,g2⟩:=zqu (f:=S.length) (by omega) (nd S k).p st hc;obtain⟨i1,i2⟩:=zgi h true ps _ (fun x U=>F x (by simp[U])) g1 (fun e=>by cases e);refine⟨i1,fun z=>?_⟩;rw[i2 z,g2 z];constructor
   ·rintro((h|h) |⟨k', D,h⟩)
    ·exact Or.inl h
    ·exact Or.inr ⟨k,by simp,h⟩
    ·exact Or.inr ⟨k', by simp[D],h⟩
   ·rintro(h |⟨k', D,h⟩)
    ·exact Or.inl (Or.inl h)
    ·rcases List.mem_cons.1 D with e|D
     ·have:k' = k:=(by omega);subst this;exact Or.inl (Or.inr h)
     ·exact Or.inr ⟨k', D,h⟩
  | false =>
   obtain⟨g1,g2,g3⟩:=zmu S.length (nd S k).p st hc (fun a ha b hb M=>Or.inl (O rfl a ha b hb M)) (fun E e J j z I=>by
    have:=h.up_short J (I.up h J)
    omega)
   obtain⟨i1,i2⟩:=zgi h false ps _ (fun x U=>F x (by simp[U])) g1 (fun _=>g2);refine⟨i1,fun z=>?_⟩;rw[i2 z,g3 z];constructor
   ·rintro((h |⟨E,j,e,Z,I⟩) |⟨k', D,h⟩)
    ·exact Or.inl h
    ·exact Or.inr ⟨k,by simp,(show ∃ (E j:Nat),_ from ⟨E,j,e,Z,I⟩)⟩
    ·exact Or.inr ⟨k', by simp[D],h⟩
   ·rintro(h |⟨k', D,h⟩)
    ·exact Or.inl (Or.inl h)
    ·rcases List.mem_cons.1 D with e|D
     ·have:k' = k:=(by omega);subst this;obtain⟨E,j,e,Z,I⟩:∃ (E j:Nat),(nd S k').p=E/\E<S.length/\PUp S j E z:=h;exact Or.inl (Or.inr ⟨E,j,e,Z,I⟩)
     ·exact Or.inr ⟨k', D,h⟩
def zcg(S:List Nd)(ps:List Int):Prop:=∀ x ∈ ps,∃ k:Nat,x=k/\k<S.length
theorem ztL{S:List Nd}(h:WF S)(near:Bool){ps:List Int}(E:zcg S ps):zcg S (zcN S near ps)/\∀ z:Nat,(z:Int) ∈ zcN S near ps↔∃ k:Nat,(k:Int) ∈ ps/\Abv S near k z:=by
 obtain⟨h1,I⟩:=zgi h near ps (fun _=>false,[]) E ⟨fun x F=>(by cases F),fun k D=>(by cases D)⟩ (fun _ a ha=>by cases ha);refine⟨fun x F=>?_,fun z=>?_⟩
 ·obtain⟨k,e,D,_⟩:=h1.mem x F;exact⟨k,e,D⟩
 ·rw[show zcN S near ps=(ps.foldl (zgK S near) (fun _=>false,[])).2 from rfl,h1.iff z,I z];constructor
  ·rintro(h|h)
   ·cases h
   ·exact h
  ·exact Or.inr
theorem zwI{S:List Nd}{te:Tst}{ps:List Int}{x:Int}:x ∈ zgD S te ps↔x ∈ ps/\zxn te.t te.m (nd S x.toNat)=true:=by
 unfold zgD;rw[zlK];simp
theorem zcg.sift{S:List Nd}{te:Tst}{ps:List Int}(h:zcg S ps):zcg S (zgD S te ps):=fun x D=>h x (zwI.1 D).1
end Go.Proofs.YtcbcpomacdngmaaGreat
