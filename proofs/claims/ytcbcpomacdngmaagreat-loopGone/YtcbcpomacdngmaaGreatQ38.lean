/-
  x
-/
import Derived.Test.YtcbcpomacdngmaaGreatQ37
namespace Go.Proofs.YtcbcpomacdngmaaGreat
set_option maxRecDepth 100000
set_option maxHeartbeats 4000000
set_option linter.unusedVariables false
open Go.RowKit Go.ChangeShapes Go.WideShapes
def gA(w:World)(a:Option Addr)(i:Nat):Option Addr:=match a with
 | some D=>(match w.cell? ⟨D.block,D.off+i*2+1,none⟩ with|some (.slice x _ _)=>x | _=>none)
 | none=>none
def gC(w:World)(a:Option Addr)(i:Nat):Nat:=match a with
 | some D=>(match w.cell? ⟨D.block,D.off+i*2+1,none⟩ with|some (.slice _ _ c)=>c | _=>0)
 | none=>0
theorem zzO{w:World}{a:Option Addr}{q:List Ml}(h:zix w a q){i:Nat}(hi:i<q.length):∃ b o,a=some ⟨b,o,none⟩/\w.cell? ⟨b,o+i*2,none⟩=some (.int .i64 (ml q i).f)/\w.cell? ⟨b,o+i*2+1,none⟩=some (.slice (gA w a i) (ml q i).g.length (gC w a i)):=by
 obtain⟨b,o,ga,gc,rfl,c0,c1,_⟩:=h i hi;exact⟨b,o,rfl,c0,by unfold gA gC;dsimp only;rw[c1]⟩
theorem zxv{w:World}{a:Option Addr}{q:List Ml}(h:zix w a q){i:Nat}(hi:i<q.length):zaG w (gA w a i) (ml q i).g:=by
 obtain⟨b,o,ga,gc,rfl,c0,c1,hg⟩:=h i hi;unfold gA;dsimp only;rw[c1];exact hg
theorem zyD(m:Ml)(ga:Option Addr)(gc n M:Nat)(w:World)(hn:n<=9223372036854775807)(hc:w.cell? ⟨M,0,none⟩=some (.int .i64 (n:Int)))(h1:m.g.length<=9223372036854775807)(O:zkz m.g)(T:zaG w ga m.g) :
  Calls Tryz.prog 65 #[.agg #[.int .i64 m.f,.slice ga m.g.length gc],.pointer (some ⟨M,0,none⟩)] w fun e w' => e=.returned (.int .i64 (zjn n m))/\Below w.heap.size w w' := by
 obtain⟨f,g⟩:=m;dsimp only at h1 O T |-;have D:Hid (∀ W,Below w.heap.size w W->Calls _ _ _ _ _):=fun W hW=>zfP ga gc g W h1 O (T.below hW);obtain⟨Q,U⟩:∃ Q:Int,(n:Int)-1=Q:=⟨_,rfl⟩;have hq:IntKind.i64.wrap ((n:Int)-1)=Q:=by rw[IntKind.wrap_i64];omega
 have J:Hid (∀ W,Calls _ _ _ _ _):=fun W=>zaQ f 0 Q W;have a5:M<w.heap.size:=yd _ _ hc;have E:zjn n ⟨f,g⟩=if 0<=f/\f<=Q then zav g else 4:=by rw[<- U];rfl
 rw[E];clear E h1 O T U;generalize zav g=G at *;generalize g.length=l at *;by_cases h:0<=f/\f<=Q
 ·rw[yb h];rw[decide_eq_true h] at J;clear h
  go_enter Tryz.func65,Tryz.ntmps65
  go_wp2_with (first|(go_at_call 66;refine(J.out _).mono ?_;rintro e w3 ⟨rfl,F⟩;subst F)|(go_at_call 64;refine(D.out _ (zaa _ _)).mono ?_;rintro e w4 ⟨rfl,I⟩;have Z:Hid (Below w.heap.size w w4):=(zaa _ _).trans (I.mono (by simp));clear I))
  go_ret;exact⟨rfl,Z.out⟩
 ·rw[ya h];rw[decide_eq_false h] at J;clear h
  go_enter Tryz.func65,Tryz.ntmps65
  go_wp2_with (go_at_call 66;refine(J.out _).mono ?_;rintro e w3 ⟨rfl,F⟩;subst F)
  go_ret;exact⟨rfl,zaa _ _⟩
theorem zwO(q:List Ml)(qa:Option Addr)(qc n J T:Nat)(w:World)(hn:n<=9223372036854775807)(hc:w.cell? ⟨J,0,none⟩=some (.int .i64 (n:Int)))(hd:w.cell? ⟨T,0,none⟩=some (.func (.func 65) #[] #[.pointer (some ⟨J,0,none⟩)]))(h1:q.length<=9223372036854775807)(M:∀ j,j<q.length->(ml q j).g.length<=9223372036854775807/\zkz (ml q j).g)(O:zix w qa q) :
  Calls Tryz.prog 67 #[.slice qa q.length qc,.pointer (some ⟨T,0,none⟩)] w fun e w' => e=.returned (.int .i64 (zbU n q))/\Below w.heap.size w w' := by
 have D:Hid (Calls _ _ _ _ _):=zsF 65 #[.pointer (some ⟨J,0,none⟩)] (enters_of Tryz.func65 (by kernel_rfl) rfl) qa qc q.length (fun i=>⟨(ml q i).f,gA w qa i,(ml q i).g.length,gC w qa i⟩) (fun i=>zjn n (ml q i)) w h1 (fun i hi=>zzO O hi) (fun i hi W U=>zyD (ml q i) _ _ n J W hn (zab hc U) (M i hi).1 (M i hi).2 ((zxv O hi).below U))
 have E:zbU n q=if 16<q.length then 1 else zao ((List.range q.length).map fun i=>zjn n (ml q i)):=by
  unfold zbU ml;rw[zhe,zjq]
 rw[E];clear E M O hc;generalize zao ((List.range q.length).map fun i=>zjn n (ml q i))=F at *;generalize q.length=l at *;by_cases h:16<l
 ·rw[yb h];have h' :(16:Int)<(l:Int):=by omega
  go_enter Tryz.func67,Tryz.ntmps67
  go_wp2
  go_ret;exact⟨rfl,yk _ _⟩
 ·rw[ya h];have h' : ¬ (16:Int)<(l:Int):=by omega
  go_enter Tryz.func67,Tryz.ntmps67
  go_wp2_with (go_at_call 68;refine D.out.mono ?_;rintro e w4 ⟨rfl,I⟩;have Z:Hid (Below w.heap.size w w4):=I;clear I)
  go_ret;exact⟨rfl,Z.out⟩
theorem zyQ(l:Nat)(pa:Option Addr)(pc:Nat)(w:World):Calls Tryz.prog 34 #[.slice pa l pc] w fun e w' => e=.returned (.int .i64 (if 40<l then 1 else 0))/\Below w.heap.size w w' := by
 by_cases h:40<l
 ·rw[yb h];have D:(40:Int)<(l:Int):=by omega
  go_enter Tryz.func34,Tryz.ntmps34
  go_wp2
  go_ret;exact⟨rfl,yk _ _⟩
 ·rw[ya h];have D:¬ (40:Int)<(l:Int):=by omega
  go_enter Tryz.func34,Tryz.ntmps34
  go_wp2
  go_ret;exact⟨rfl,yk _ _⟩
theorem zuD(n:Int)(w:World):Calls Tryz.prog 36 #[.int .i64 n] w fun e w' => ∃ D E,e=.returned (.func (.func 67) #[] #[.pointer (some ⟨E,0,none⟩)])/\Below w.heap.size w w' /\ w'.cell? ⟨D,0,none⟩=some (.int .i64 n)/\w'.cell? ⟨E,0,none⟩=some (.func (.func 65) #[] #[.pointer (some ⟨D,0,none⟩)]):=by
 go_enter Tryz.func36,Tryz.ntmps36
 go_wp2
 go_ret;exact⟨w.heap.size,w.heap.size+1,rfl,zam _ _ _,zay _ _ _ 0 _ rfl,zaz _ _ _ 0 _ rfl⟩
theorem ziJ(w:World)(t:Nat)(D v1 v2 E F:Value):(w.alloc (.cells #[D,v1,v2,E,F] t)).heap[w.heap.size]?=some (.cells #[D,v1,v2,E,F] t (0,0)):=heap_alloc_new _ _
theorem zzM{a b c d e f:Int}:zao [a,b,c,d,e,f]=if a=0 then (if b=0 then (if c=0 then (if d=0 then (if e=0 then (if f=0 then 0 else f) else e) else d) else c) else b) else a:=rfl
theorem zAX(e:Int):(if e=0 then 0 else e)=e:=by
 split
 ·omega
 ·rfl
theorem zia:zgN:=fun A W w hB hC hW=>by
 obtain⟨a0,a1,a2,a3,a4,c0,c1,c2,c3,c4⟩:=A;obtain⟨fs,rs,ps,qs,pt⟩:=W;obtain⟨b4,⟨b5,a6⟩,⟨b6,b1⟩,⟨b7,M⟩,b8,a7⟩:=hB;dsimp only[wlV] at b4 b5 a6 b6 b1 b7 M b8 a7 |-;have D0:Hid (∀ V,Below w.heap.size w V->Calls _ _ _ _ _):=fun V hV=>zdW a0 c0 fs V b4 (hW.fs.below hV)
 have D1:Hid (∀ V,Below w.heap.size w V->Calls Tryz.prog 31 #[.slice a1 rs.length c1,.func (.func 32) #[] #[]] V fun e w' => e=.returned (.int .i64 (zcJ rs))/\Below V.heap.size V w'):=fun V hV=>by
  obtain⟨f,hf⟩:=zpY (hW.rs.below hV);have e:zcJ rs=zao ((List.range rs.length).map fun i=>zaF (rl rs i)):=by unfold rl;rw[zhe,ziq]
  rw[e];exact zsI 32 #[] (enters_of Tryz.func32 (by kernel_rfl) rfl) a1 c1 rs.length (fun i=>⟨(f i).a0,(rl rs i).s.length,(f i).c0,(f i).a1,(rl rs i).hs.length,(f i).c1,(f i).a2,(rl rs i).i.length,(f i).c2,(f i).a3,(rl rs i).t.length,(f i).c3⟩) (fun i=>zaF (rl rs i)) V b5 (fun i hi=>(hf i hi).1) (fun i hi U hU=>zem (f i) (rl rs i) U (a6 i hi) ((hf i hi).2.below hU))
 have D2:Hid (∀ V,Below w.heap.size w V->Calls Tryz.prog 33 #[.slice a2 ps.length c2,.func (.func 34) #[] #[]] V fun e w' => e=.returned (.int .i64 (zek ps))/\Below V.heap.size V w'):=fun V hV=>by
  obtain⟨f,hf⟩:=zpV (hW.ps.below hV);have e:zek ps=zao ((List.range ps.length).map fun i=>zpa (pg ps i)):=by unfold pg;rw[zhe,zjD]
  rw[e];exact zsG 34 #[] (enters_of Tryz.func34 (by kernel_rfl) rfl) a2 c2 ps.length (fun i=>⟨(f i).1,(pg ps i).length,(f i).2⟩) (fun i=>zpa (pg ps i)) V b6 (fun i hi=>(hf i hi).1) (fun i hi U hU=>zyQ _ _ _ U)
 have DM:Hid (∀ V,Calls _ _ _ _ _):=fun V=>zuD (fs.length:Int) V
 have D3:Hid (∀ V cb cc,Below w.heap.size w V->V.cell? ⟨cb,0,none⟩=some (.int .i64 (fs.length:Int))->V.cell? ⟨cc,0,none⟩=some (.func (.func 65) #[] #[.pointer (some ⟨cb,0,none⟩)])->Calls Tryz.prog 35 #[.slice a3 qs.length c3,.func (.func 67) #[] #[.pointer (some ⟨cc,0,none⟩)]] V fun e w' => e=.returned (.int .i64 (zcI fs.length qs))/\Below V.heap.size V w'):=fun V cb cc hV a9 b0=>by
  obtain⟨f,hf⟩:=zpW (hW.qs.below hV);have e:zcI fs.length qs=zao ((List.range qs.length).map fun i=>zbU fs.length (qu qs i)):=by unfold qu;rw[zhe,zin]
  rw[e];exact zsH 67 #[.pointer (some ⟨cc,0,none⟩)] (enters_of Tryz.func67 (by kernel_rfl) rfl) a3 c3 qs.length (fun i=>⟨(f i).1,(qu qs i).length,(f i).2⟩) (fun i=>zbU fs.length (qu qs i)) V b7 (fun i hi=>(hf i hi).1) (fun i hi U hU=>zwO (qu qs i) _ _ fs.length cb cc U b4 (zab a9 hU) (zab b0 hU) (M i hi).1 (M i hi).2 ((hf i hi).2.below hU))
 have D4:Hid (∀ V,Below w.heap.size w V->Calls _ _ _ _ _):=fun V hV=>zhS a4 c4 pt (fs.length:Int) V b8 a7 hC.s4 (hW.pt.below hV)
 have E:zbp ⟨fs,rs,ps,qs,pt⟩=if zaM fs=0 then (if (if rs.length=fs.length/\ps.length=fs.length/\qs.length=fs.length then (0:Int) else 3)=0 then (if zcJ rs=0 then (if zek ps=0 then (if zcI fs.length qs=0 then zbd pt fs.length else zcI fs.length qs) else zek ps) else zcJ rs) else (if rs.length=fs.length/\ps.length=fs.length/\qs.length=fs.length then (0:Int) else 3)) else zaM fs:=by
  unfold zbp;rw[zzM,zAX]
 rw[E];clear E hC hW a6 b1 M a7;generalize zaM fs=E0 at *;generalize zcJ rs=E1 at *;generalize zek ps=E2 at *;generalize zcI fs.length qs=E3 at *;generalize zbd pt fs.length=E4 at *;generalize fs.length=T at *;generalize rs.length=Z at *;generalize ps.length=O at *;generalize qs.length=J at *;generalize pt.length=nt at *;obtain⟨F,hF⟩:∃ F:Int,(if E0=0 then (if (if Z=T/\O=T/\J=T then (0:Int) else 3)=0 then (if E1=0 then (if E2=0 then (if E3=0 then E4 else E3) else E2) else E1) else (if Z=T/\O=T/\J=T then (0:Int) else 3)) else E0)=F:=⟨_,rfl⟩;have I:Hid (_=F):=hF;rw[hF];clear hF
 go_enter Tryz.func10,Tryz.ntmps10
 go_wp2_with fail
 refine ye (D0.out _ (zaa _ _)) ?_;rintro e V0 ⟨rfl,D⟩;have BV:Hid (Below w.heap.size w V0):=(zaa _ _).trans (D.mono (by simp));have X0:Hid _:=zaD (ziJ w 28 (.slice a0 T c0) (.slice a1 Z c1) (.slice a2 O c2) (.slice a3 J c3) (.slice a4 nt c4)) D;clear D D0;obtain⟨l0,l1,l2,l3,l4,ll⟩:=zaY X0.out;by_cases e0:E0=0;rotate_left
 ·rw[ya e0] at I;have hz:(E0 == 0)=false:=by simp[e0]
  go_wp2
  go_ret;exact⟨by rw[<- I.out];rfl,BV.out⟩
 subst e0;rw[yb rfl] at I;by_cases h1:Z=T;rotate_left
 ·rw[show (if Z=T/\O=T/\J=T then (0:Int) else 3)=3 from ya (fun h=>h1 h.1),ya (by decide)] at I;have hz:((Z:Int) ==(T:Int))=false:=by simp;omega
  go_wp2
  go_ret;exact⟨by rw[<- I.out];rfl,BV.out⟩
 subst h1;by_cases h2:O=Z;rotate_left
 ·rw[show (if Z=Z/\O=Z/\J=Z then (0:Int) else 3)=3 from ya (fun h=>h2 h.2.1),ya (by decide)] at I;have hz:((O:Int) ==(Z:Int))=false:=by simp;omega
  go_wp2
  go_ret;exact⟨by rw[<- I.out];rfl,BV.out⟩
 subst h2;by_cases h3:J=O;rotate_left
 ·rw[show (if O=O/\O=O/\J=O then (0:Int) else 3)=3 from ya (fun h=>h3 h.2.2),ya (by decide)] at I;have hz:((J:Int) ==(O:Int))=false:=by simp;omega
  go_wp2
  go_ret;exact⟨by rw[<- I.out];rfl,BV.out⟩
 subst h3;rw[show (if J=J/\J=J/\J=J then (0:Int) else 3)=0 from yb ⟨rfl,rfl,rfl⟩,yb rfl] at I
 go_wp2_with fail
 refine ye (D1.out _ BV.out) ?_;rintro e V1 ⟨rfl,D⟩;have a5:Hid (Below w.heap.size w V1):=BV.out.trans (D.mono BV.out.size);have X1:Hid _:=zaD X0.out D;clear D D1 l0 l1 l2 l3 l4 ll X0;obtain⟨l0,l1,l2,l3,l4,ll⟩:=zaY X1.out;by_cases e1:E1=0;rotate_left
 ·rw[ya e1] at I;have hz:(E1 == 0)=false:=by simp[e1]
  go_wp2
  go_ret;exact⟨by rw[<- I.out];rfl,a5.out⟩
 subst e1;rw[yb rfl] at I
 go_wp2_with fail
 refine ye (D2.out _ a5.out) ?_;rintro e V2 ⟨rfl,D⟩;have b2:Hid (Below w.heap.size w V2):=a5.out.trans (D.mono a5.out.size);have X2:Hid _:=zaD X1.out D;clear D D2 l0 l1 l2 l3 l4 ll X1 a5 BV;obtain⟨l0,l1,l2,l3,l4,ll⟩:=zaY X2.out;by_cases e2:E2=0;rotate_left
 ·rw[ya e2] at I;have hz:(E2 == 0)=false:=by simp[e2]
  go_wp2
  go_ret;exact⟨by rw[<- I.out];rfl,b2.out⟩
 subst e2;rw[yb rfl] at I
 go_wp2_with fail
 go_region_held3 (fun c6=>c6.cell? ⟨w.heap.size,3,none⟩=some (.slice a3 J c3)) (go_keep) (first|(go_at_call 36;refine ye (DM.out V2.drew) ?_;rintro e V3 ⟨cb,cc,rfl,D,a9,b0⟩;have b3:Hid (Below w.heap.size w V3):=b2.out.drew.trans (D.mono b2.out.size);have X3:Hid _:=zaD (W:=V2.drew) X2.out D;have CB:Hid _:=a9;have CC:Hid _:=b0;clear D a9 b0;obtain⟨m0,m1,m2,m3,m4,mm⟩:=zaY X3.out)|(go_at_call 35;refine ye (D3.out V3 cb cc b3.out CB.out CC.out) ?_;rintro e V4 ⟨rfl,D⟩;have a8:Hid (Below w.heap.size w V4):=b3.out.trans (D.mono b3.out.size);have X4:Hid _:=zaD X3.out D;clear D;obtain⟨n0,n1,n2,n3,n4,nn⟩:=zaY X4.out))
 clear l0 l1 l2 l3 l4 ll m0 m1 m2 m3 m4 mm D3 DM;by_cases e3:E3=0;rotate_left
 ·rw[ya e3] at I;have hz:(E3 == 0)=false:=by simp[e3]
  go_wp2
  go_ret;exact⟨by rw[<- I.out];rfl,a8.out⟩
 subst e3;rw[yb rfl] at I
 go_wp2_with (go_at_call 37;refine ye (D4.out _ a8.out) ?_;rintro e V5 ⟨rfl,D⟩;have b9:Hid (Below w.heap.size w V5):=a8.out.trans (D.mono a8.out.size);clear D)
 go_ret;exact⟨by rw[<- I.out];rfl,b9.out⟩
theorem zyj(A:RA)(R:Rl)(x:Ac)(E:Int)(w:World)(T:zsb R)(I:zcp w A R)(U:zaF R=E)(F:E≠0) :
  Calls Tryz.prog 148 #[rlV A R,acV x] w fun e w' => ∃ B:RA,e=.returned (.tuple #[rlV B zbK,.int .i64 0,.int .i64 E])/\Below w.heap.size w w' /\ zcp w' B zbK:=by
 have J:Hid (∀ W,zcp W A R->Calls _ _ _ _ _):=fun W I=>zem A R W T I;rw[U] at J;have hz:(E == 0)=false:=by simp[F]
 have M:Hid _:=zgT w A R x I;clear I U T F;obtain⟨xk,xa,xb,xc,xn⟩:=x;obtain⟨a0,a1,a2,a3,c0,c1,c2,c3⟩:=A;dsimp only[rlV,acV] at *
 go_enter Tryz.func148,Tryz.ntmps148
 go_wp2_with fail
 refine ye (J.out _ M.out.rl) ?_;rintro e V1 ⟨rfl,Z⟩;have D:Hid _:=M.out.below Z;clear Z J M;obtain⟨r0,r1,r2,r3,rf,rl⟩:=zai D.out.r;obtain⟨z0,z1,z2,z3,zf,zl⟩:=zai D.out.z;obtain⟨y0,y1,y2,y3,y4,yl⟩:=zaY D.out.x
 go_wp2
 obtain⟨X,O⟩:∃ X,(((V1.setCell ⟨w.heap.size+1+1,0,none⟩ (.slice none 0 0)).setCell ⟨w.heap.size+1+1,1,none⟩ (.slice none 0 0)).setCell ⟨w.heap.size+1+1,2,none⟩ (.slice none 0 0)).setCell ⟨w.heap.size+1+1,3,none⟩ (.slice none 0 0)=X:=⟨_,rfl⟩;have x0:X.heap[w.heap.size+1+1]?=some (.cells #[.slice none 0 0,.slice none 0 0,.slice none 0 0,.slice none 0 0] 50 (0,0)):=by rw[<- O];exact zcL D.out.z
 have xb:Below w.heap.size w X:=by rw[<- O];exact(((D.out.bel.setCell (by simp;omega) _).setCell (by simp;omega) _).setCell (by simp;omega) _).setCell (by simp;omega) _
 rw[O];obtain⟨m0,m1,m2,m3,mf,ml⟩:=zai x0;exact yv (v:=.tuple #[.agg #[.slice none 0 0,.slice none 0 0,.slice none 0 0,.slice none 0 0],.int .i64 0,.int .i64 E]) (by simp[results,Tryz.results148,go_sem,m0,m1,m2,m3]) rfl ⟨⟨none,none,none,none,0,0,0,0⟩,rfl,xb,zjL _ _⟩
theorem zyk(A:RA)(R:Rl)(x:Ac)(w:World)(I:zaF R=0)(J:zcp w A R)(ha:¬ isH x.a) :
  Calls Tryz.prog 148 #[rlV A R,acV x] w fun e w' => ∃ B:RA,e=.returned (.tuple #[rlV B zbK,.int .i64 0,.int .i64 4])/\Below w.heap.size w w' /\ zcp w' B zbK:=by
 have hl:=(zaB I).2.1;have M:Hid (∀ W,zcp W A R->Calls _ _ _ _ _):=fun W J=>zem A R W (zdo I) J;rw[I] at M;have O:Hid (∀ W,Calls _ _ _ _ _):=fun W=>zcF A R x.a W hl;rw[show decide (isH x.a)=false from decide_eq_false ha] at O;have T:Hid _:=zgT w A R x J;clear J ha I hl;obtain⟨xk,xa,xb,xc,xn⟩:=x;obtain⟨a0,a1,a2,a3,c0,c1,c2,c3⟩:=A;dsimp only[rlV,acV] at *
 go_enter Tryz.func148,Tryz.ntmps148
 go_wp2_with fail
 refine ye (M.out _ T.out.rl) ?_;rintro e V1 ⟨rfl,F⟩;have D:Hid _:=T.out.below F;clear F M T;obtain⟨Z,r1,r2,r3,rf,rl⟩:=zai D.out.r;obtain⟨z0,z1,z2,z3,zf,zl⟩:=zai D.out.z;obtain⟨y0,y1,y2,y3,y4,yl⟩:=zaY D.out.x
 go_wp2_with fail
 refine ye (O.out _) ?_;rintro e V2 ⟨rfl,F⟩;have E:Hid _:=D.out.below F;clear Z r1 r2 r3 rf rl z0 z1 z2 z3 zf zl y0 y1 y2 y3 y4 yl;clear F O D;obtain⟨Z,r1,r2,r3,rf,rl⟩:=zai E.out.r;obtain⟨z0,z1,z2,z3,zf,zl⟩:=zai E.out.z;obtain⟨y0,y1,y2,y3,y4,yl⟩:=zaY E.out.x
 go_wp2
 obtain⟨X,U⟩:∃ X,(((V2.setCell ⟨w.heap.size+1+1,0,none⟩ (.slice none 0 0)).setCell ⟨w.heap.size+1+1,1,none⟩ (.slice none 0 0)).setCell ⟨w.heap.size+1+1,2,none⟩ (.slice none 0 0)).setCell ⟨w.heap.size+1+1,3,none⟩ (.slice none 0 0)=X:=⟨_,rfl⟩;have x0:X.heap[w.heap.size+1+1]?=some (.cells #[.slice none 0 0,.slice none 0 0,.slice none 0 0,.slice none 0 0] 50 (0,0)):=by rw[<- U];exact zcL E.out.z
 have xb:Below w.heap.size w X:=by rw[<- U];exact(((E.out.bel.setCell (by simp;omega) _).setCell (by simp;omega) _).setCell (by simp;omega) _).setCell (by simp;omega) _
 rw[U];obtain⟨m0,m1,m2,m3,mf,ml⟩:=zai x0;exact yv (v:=.tuple #[.agg #[.slice none 0 0,.slice none 0 0,.slice none 0 0,.slice none 0 0],.int .i64 0,.int .i64 4]) (by simp[results,Tryz.results148,go_sem,m0,m1,m2,m3]) rfl ⟨⟨none,none,none,none,0,0,0,0⟩,rfl,xb,zjL _ _⟩
theorem zym(A:RA)(R:Rl)(x:Ac)(w:World)(J:zaF R=0)(M:zcp w A R)(ha:isH x.a)(hk:x.k≠1/\x.k≠2/\x.k≠4/\x.k≠6/\x.k≠5/\x.k≠11/\x.k≠14/\x.k≠15/\x.k≠3/\x.k≠7/\x.k≠8) :
  Calls Tryz.prog 148 #[rlV A R,acV x] w fun e w' => ∃ B:RA,e=.returned (.tuple #[rlV B zbK,.int .i64 0,.int .i64 3])/\Below w.heap.size w w' /\ zcp w' B zbK:=by
 have hl:=(zaB J).2.1;have O:Hid (∀ W,zcp W A R->Calls _ _ _ _ _):=fun W M=>zem A R W (zdo J) M;rw[J] at O;have T:Hid (∀ W,Calls _ _ _ _ _):=fun W=>zcF A R x.a W hl;rw[show decide (isH x.a)=true from decide_eq_true ha] at T;have D2:Hid (∀ W,Calls _ _ _ _ _):=fun W=>zsV x.k W hk;have U:Hid _:=zgT w A R x M;clear M ha J hl hk;obtain⟨xk,xa,xb,xc,xn⟩:=x;obtain⟨a0,a1,a2,a3,c0,c1,c2,c3⟩:=A;dsimp only[rlV,acV] at *
 go_enter Tryz.func148,Tryz.ntmps148
 go_wp2_with fail
 refine ye (O.out _ U.out.rl) ?_;rintro e V1 ⟨rfl,F⟩;have D:Hid _:=U.out.below F;clear F O U;obtain⟨r0,r1,r2,r3,rf,rl⟩:=zai D.out.r;obtain⟨z0,z1,z2,z3,zf,zl⟩:=zai D.out.z;obtain⟨y0,y1,y2,y3,y4,yl⟩:=zaY D.out.x
 go_wp2_with fail
 refine ye (T.out _) ?_;rintro e V2 ⟨rfl,F⟩;have E:Hid _:=D.out.below F;clear r0 r1 r2 r3 rf rl z0 z1 z2 z3 zf zl y0 y1 y2 y3 y4 yl;clear F T D;obtain⟨r0,r1,r2,r3,rf,rl⟩:=zai E.out.r;obtain⟨z0,z1,z2,z3,zf,zl⟩:=zai E.out.z;obtain⟨y0,y1,y2,y3,y4,yl⟩:=zaY E.out.x;have a6:∀ w:World,(binOp BinOp.eql 209 Value.nilFunc Value.nilFunc).run Tryz.prog w=.ok (.bool true) w:=fun _=>by kernel_rfl
 go_wp2_with fail
 refine ye (D2.out _) ?_;rintro e w6 ⟨rfl,I⟩;have a5:=I.symm;clear I;subst a5
 go_wp2
 obtain⟨X,Z⟩:∃ X,(((V2.setCell ⟨w.heap.size+1+1,0,none⟩ (.slice none 0 0)).setCell ⟨w.heap.size+1+1,1,none⟩ (.slice none 0 0)).setCell ⟨w.heap.size+1+1,2,none⟩ (.slice none 0 0)).setCell ⟨w.heap.size+1+1,3,none⟩ (.slice none 0 0)=X:=⟨_,rfl⟩;have x0:X.heap[w.heap.size+1+1]?=some (.cells #[.slice none 0 0,.slice none 0 0,.slice none 0 0,.slice none 0 0] 50 (0,0)):=by rw[<- Z];exact zcL E.out.z
 have xb:Below w.heap.size w X:=by rw[<- Z];exact(((E.out.bel.setCell (by simp;omega) _).setCell (by simp;omega) _).setCell (by simp;omega) _).setCell (by simp;omega) _
 rw[Z];obtain⟨m0,m1,m2,m3,mf,ml⟩:=zai x0;exact yv (v:=.tuple #[.agg #[.slice none 0 0,.slice none 0 0,.slice none 0 0,.slice none 0 0],.int .i64 0,.int .i64 3]) (by simp[results,Tryz.results148,go_sem,m0,m1,m2,m3]) rfl ⟨⟨none,none,none,none,0,0,0,0⟩,rfl,xb,zjL _ _⟩
theorem zbe{R:Rl}{x:Ac}{q:Rs}{k:Int}{G F:Nat}(J:x.k=k)(E:∀ args w,(callFunc G args).run Tryz.prog w=.ok (.enter G args) w)
  (h:∀ W,Calls Tryz.prog 162 #[.int .i64 k] W fun e w' => ∃ D,e=.returned (.func (.func G) #[] #[.pointer (some ⟨D,0,none⟩)])/\Below W.heap.size W w' /\ w'.cell? ⟨D,0,none⟩=some (.func (.func F) #[] #[]))
  (hd:∀ D (w:World),w.cell? ⟨D,0,none⟩=some (.func (.func F) #[] #[])->zmq G #[.pointer (some ⟨D,0,none⟩)] w R x q):zkA R x q:=fun W=>by
 rw[J];refine(h W).mono ?_;rintro e w' ⟨D,rfl,I,hc⟩;exact⟨G,_,rfl,I,E,fun M h0=>hd D M ((h0.cell (yd _ _ hc)).trans hc)⟩
theorem zif{R:Rl}{x:Ac}{q:Rs}{k:Int}{G:Nat}(E:x.k=k)(D:∀ args w,(callFunc G args).run Tryz.prog w=.ok (.enter G args) w)
  (h:∀ W,Calls Tryz.prog 162 #[.int .i64 k] W fun e w' => e=.returned (.func (.func G) #[] #[])/\w' = W) (hd:∀ w:World,zmq G #[] w R x q):zkA R x q:=fun W=>by
 rw[E];refine(h W).mono ?_;rintro e w' ⟨rfl,rfl⟩;exact⟨G,_,rfl,yk _ _,D,fun F _=>hd F⟩
theorem zxT{R:Rl}{a n:Int}(h:zfu R.s n=0):zso R a n=⟨0,⟨rS (zfu R.s n) (mkS R.s n),R.hs.set a.toNat (rH (zfu R.s n) (mkH R.s)),R.i,R.t⟩,0⟩:=by
 unfold zso;rw[zlp h,h];rfl
theorem zxS{R:Rl}{b:Int}{h:Int × Int}{c:Bool}(e:zvV R.s h.1 h.2=0):zsn R b h c=⟨0,⟨rS (zvV R.s h.1 h.2) (zzT R.s h.1 c),R.hs.set b.toNat (rH (zvV R.s h.1 h.2) (mkH R.s)),R.i,R.t⟩,0⟩:=by
 unfold zsn;rw[zlp e,e];rfl
theorem zAT(R:Rl)(x:Ac)(hR:zaF R=0)(ha:isH x.a)(hk:¬ (x.k≠1/\x.k≠2/\x.k≠4/\x.k≠6/\x.k≠5/\x.k≠11/\x.k≠14/\x.k≠15/\x.k≠3/\x.k≠7/\x.k≠8)):zkA R x (doG R x):=by
 obtain⟨wf,hl,hg,_⟩:=zaB hR;have M:=(zdg hg).1;unfold doG;rw[yb ha];by_cases k1:x.k=1
 ·rw[yb k1];exact zif k1 (enters_of Tryz.func165 (by kernel_rfl) rfl) zvu (fun w=>znk w R x hl ha _ _ _ (zyE R.s x.n wf) _ (zlq _ _ _) zxT)
 rw[ya k1];by_cases k2:x.k=2
 ·rw[yb k2];exact zbe k2 (enters_of Tryz.func183 (by kernel_rfl) rfl) zvv (fun D w hc=>zkG _ (enters_of Tryz.func167 (by kernel_rfl) rfl) D w hc R x hl ha _ _ (zvL R.s (hd R x.a) wf))
 rw[ya k2];by_cases k4:x.k=4
 ·rw[yb k4];exact zbe k4 (enters_of Tryz.func183 (by kernel_rfl) rfl) zvw (fun D w hc=>zkG _ (enters_of Tryz.func168 (by kernel_rfl) rfl) D w hc R x hl ha _ _ (zrF R.s (hd R x.a) wf))
 rw[ya k4];by_cases k6:x.k=6
 ·rw[yb k6];exact zif k6 (enters_of Tryz.func169 (by kernel_rfl) rfl) zvy (fun w=>znE w R x wf hl ha)
 rw[ya k6];by_cases k5:x.k=5
 ·rw[yb k5];exact zbe k5 (enters_of Tryz.func187 (by kernel_rfl) rfl) zvx (fun D w hc=>zpP _ (enters_of Tryz.func171 (by kernel_rfl) rfl) D w hc R x wf hl ha x.n (fun a c W _=>zlX a _ c x.n W))
 rw[ya k5];by_cases J:x.k=11
 ·rw[yb J];unfold zvl;by_cases hn:0<=x.n/\x.n<R.i.length
  ·rw[yb hn];obtain⟨j,hj⟩:∃ j:Nat,x.n=j:=⟨x.n.toNat,by omega⟩;refine zbe J (enters_of Tryz.func187 (by kernel_rfl) rfl) zmI (fun D w hc=>zpP _ (enters_of Tryz.func172 (by kernel_rfl) rfl) D w hc R x wf hl ha _ (fun a c W Z=>?_));rw[hj,yi];exact zki a c R.i j W Z (by omega) M
  ·rw[ya hn];exact zbe J (enters_of Tryz.func187 (by kernel_rfl) rfl) zmI (fun D w hc=>zyF _ (enters_of Tryz.func172 (by kernel_rfl) rfl) D w hc R x wf hl ha 4 0 (by decide) (fun a c W _=>zlt a _ c x.n W hn M))
 rw[ya J];by_cases O:x.k=14
 ·rw[yb O];exact zbe O (enters_of Tryz.func188 (by kernel_rfl) rfl) zsS (fun D w hc=>zjW _ (enters_of Tryz.func174 (by kernel_rfl) rfl) D w hc R x hl ha _ _ (fun a c W Z=>zkq R.s (hd R x.a) x wf a c W Z))
 rw[ya O];by_cases T:x.k=15
 ·rw[yb T];exact zbe T (enters_of Tryz.func188 (by kernel_rfl) rfl) zsU (fun D w hc=>zjW _ (enters_of Tryz.func175 (by kernel_rfl) rfl) D w hc R x hl ha _ _ (fun a c W Z=>zlG R.s (hd R x.a) x wf a c W Z))
 rw[ya T];have kk:x.k=3\/x.k=7\/x.k=8:=by omega
 rw[yb kk];have U:(∀ args w,(callFunc 191 args).run Tryz.prog w=.ok (.enter 191 args) w):=enters_of Tryz.func191 (by kernel_rfl) rfl;have eh:=enters_of Tryz.func178 (by kernel_rfl) rfl;have eu:=enters_of Tryz.func179 (by kernel_rfl) rfl;have ei:=enters_of Tryz.func177 (by kernel_rfl) rfl;by_cases E:isH x.b
 ·rw[yb E];by_cases k7:x.k=7
  ·rw[yb k7];exact zbe k7 U zpw (fun D w hc=>zjZ _ eh D w hc R x hl E _ (zvW w R x hl ha E _ _ _ (zyA R.s (hd R x.a) (decide (x.n=1)) wf) _ (zlq _ _ _) zxS))
  rw[ya k7];by_cases k8:x.k=8
  ·rw[yb k8];exact zbe k8 U zpx (fun D w hc=>zjZ _ eu D w hc R x hl E _ (zAx w R x wf hl ha E))
  rw[ya k8];have k3:x.k=3:=by omega
  refine zbe k3 U zpv (fun D w hc=>zjZ _ ei D w hc R x hl E _ ?_);by_cases F:x.c<0
  ·rw[yb F];exact zwg w R x wf hl ha E F
  rw[ya F];by_cases I:isH x.c
  ·rw[yb I];exact zwh w R x wf hl ha E I
  ·rw[ya I];exact ztB w R x wf hl ha E F I
 ·rw[ya E];rcases kk with k3|k7|k8
  ·exact zbe k3 U zpv (fun D w hc=>zmo _ ei D w hc R x hl E)
  ·exact zbe k7 U zpw (fun D w hc=>zmo _ eh D w hc R x hl E)
  ·exact zbe k8 U zpx (fun D w hc=>zmo _ eu D w hc R x hl E)
def zzt:Prop:=∀ (A:RA) (R:Rl) (x:Ac) (w:World),zsb R->zcp w A R ->
 Calls Tryz.prog 148 #[rlV A R,acV x] w fun e w' => ∃ B:RA,e=.returned (.tuple #[rlV B (doF R x).r,.int .i64 (doF R x).o,.int .i64 (doF R x).e])/\Below w.heap.size w w' /\ zcp w' B (doF R x).r/\((doF R x).e=0->RlO w.heap.size w' B (doF R x).r)
theorem zyi:zzt:=fun A R x w hB I=>by
 by_cases D:zaF R=0
 ·have e:doF R x=doG R x:=yb D;rw[e];by_cases ha:isH x.a
  ·by_cases U:x.k≠1/\x.k≠2/\x.k≠4/\x.k≠6/\x.k≠5/\x.k≠11/\x.k≠14/\x.k≠15/\x.k≠3/\x.k≠7/\x.k≠8
   ·have J:doG R x=bad 3:=by
     obtain⟨h1,E,Z,h6,h5,M,O,T,F,h7,h8⟩:=U;unfold doG;rw[yb ha,ya h1,ya E,ya Z,ya h6,ya h5,ya M,ya O,ya T,ya (by omega)]
    rw[J];exact(zym A R x w D I ha U).mono (fun e w' ⟨B,h1,E,F⟩=>⟨B,h1,E,F,fun h=>absurd h (by decide)⟩)
   ·have h:=zyl A R x _ w D I ha (zAT R x D ha U);have s:=zzB R x;by_cases h0:(doG R x).e=0
    ·rw[yb h0,yb h0] at h;exact h
    ·rw[ya h0,ya h0] at h;rw[(s h0).1,(s h0).2];exact h
  ·have J:doG R x=bad 4:=by unfold doG;rw[ya ha]
   rw[J];exact(zyk A R x w D I ha).mono (fun e w' ⟨B,h1,E,F⟩=>⟨B,h1,E,F,fun h=>absurd h (by decide)⟩)
 ·have e:doF R x=bad (zaF R):=ya D;rw[e];exact(zyj A R x _ w hB I rfl D).mono (fun e w' ⟨B,h1,E,F⟩=>⟨B,h1,E,F,fun h=>absurd h D⟩)
end Go.Proofs.YtcbcpomacdngmaaGreat
