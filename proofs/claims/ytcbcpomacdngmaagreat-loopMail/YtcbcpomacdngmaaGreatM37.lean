/-
  x
-/
import Derived.Test.YtcbcpomacdngmaaGreatM36
namespace Go.Proofs.YtcbcpomacdngmaaGreat
set_option maxRecDepth 100000
set_option maxHeartbeats 4000000
set_option linter.unusedVariables false
open Go.RowKit Go.ChangeShapes Go.WideShapes
def gA(w:World)(a:Option Addr)(i:Nat):Option Addr:=match a with
 | some D=>(match w.cell? ⟨D.block,D.off+i*2+1,none⟩ with|some (.slice x _ _)=>x | _=>none)
 | none=>none
def gC(w:World)(a:Option Addr)(i:Nat):Nat:=match a with
 | some D=>(match w.cell? ⟨D.block,D.off+i*2+1,none⟩ with|some (.slice _ _ c)=>c | _=>0)
 | none=>0
theorem zzw{w:World}{a:Option Addr}{q:List Ml}(h:ziq w a q){i:Nat}(hi:i<q.length):∃ b o,a=some ⟨b,o,none⟩/\w.cell? ⟨b,o+i*2,none⟩=some (.int .i64 (ml q i).f)/\w.cell? ⟨b,o+i*2+1,none⟩=some (.slice (gA w a i) (ml q i).g.length (gC w a i)):=by
 obtain⟨b,o,ga,gc,rfl,c0,c1,_⟩:=h i hi;exact⟨b,o,rfl,c0,by unfold gA gC;dsimp only;rw[c1]⟩
theorem zxm{w:World}{a:Option Addr}{q:List Ml}(h:ziq w a q){i:Nat}(hi:i<q.length):zaF w (gA w a i) (ml q i).g:=by
 obtain⟨b,o,ga,gc,rfl,c0,c1,hg⟩:=h i hi;unfold gA;dsimp only;rw[c1];exact hg
theorem zyp(m:Ml)(ga:Option Addr)(gc n M:Nat)(w:World)(hn:n<=9223372036854775807)(hc:w.cell? ⟨M,0,none⟩=some (.int .i64 (n:Int)))(h1:m.g.length<=9223372036854775807)(O:zlb m.g)(T:zaF w ga m.g) :
  yL 65 #[.agg #[.int .i64 m.f,.slice ga m.g.length gc],.pointer (some ⟨M,0,none⟩)] w fun e w' => e=.returned (.int .i64 (zjc n m))/\Below w.heap.size w w' := by
 obtain⟨f,g⟩:=m;dsimp only at h1 O T |-;have D:Hid (∀ W,Below w.heap.size w W->Calls _ _ _ _ _):=fun W hW=>zfH ga gc g W h1 O (T.below hW);obtain⟨Q,U⟩:∃ Q:Int,(n:Int)-1=Q:=⟨_,rfl⟩;have hq:IntKind.i64.wrap ((n:Int)-1)=Q:=by rw[yH];omega
 have J:Hid (∀ W,Calls _ _ _ _ _):=fun W=>zaR f 0 Q W;have a5:M<w.heap.size:=yd _ _ hc;have E:zjc n ⟨f,g⟩=if 0<=f/\f<=Q then zaz g else 4:=by rw[<- U];rfl
 rw[E];clear E h1 O T U;generalize zaz g=G at *;generalize g.length=l at *;by_cases h:0<=f/\f<=Q
 ·rw[yb h];rw[yF h] at J;clear h
  go_enter Tryz.func65,Tryz.ntmps65
  go_wp2_with (first|(go_at_call 66;refine(J.out _).mono ?_;rintro e w3 ⟨rfl,F⟩;subst F)|(go_at_call 64;refine(D.out _ (zaa _ _)).mono ?_;rintro e w4 ⟨rfl,I⟩;have Z:Hid (Below w.heap.size w w4):=(zaa _ _).trans (I.mono (by simp));clear I))
  go_ret;exact⟨rfl,Z.out⟩
 ·rw[ya h];rw[yE h] at J;clear h
  go_enter Tryz.func65,Tryz.ntmps65
  go_wp2_with (go_at_call 66;refine(J.out _).mono ?_;rintro e w3 ⟨rfl,F⟩;subst F)
  go_ret;exact⟨rfl,zaa _ _⟩
theorem zwI(q:List Ml)(qa:Option Addr)(qc n J T:Nat)(w:World)(hn:n<=9223372036854775807)(hc:w.cell? ⟨J,0,none⟩=some (.int .i64 (n:Int)))(hd:w.cell? ⟨T,0,none⟩=some (.func (.func 65) #[] #[.pointer (some ⟨J,0,none⟩)]))(h1:q.length<=9223372036854775807)(M:∀ j,j<q.length->(ml q j).g.length<=9223372036854775807/\zlb (ml q j).g)(O:ziq w qa q) :
  yL 67 #[.slice qa q.length qc,.pointer (some ⟨T,0,none⟩)] w fun e w' => e=.returned (.int .i64 (zbW n q))/\Below w.heap.size w w' := by
 have D:Hid (Calls _ _ _ _ _):=zsm 65 #[.pointer (some ⟨J,0,none⟩)] (yJ Tryz.func65 (by kernel_rfl) rfl) qa qc q.length (fun i=>⟨(ml q i).f,gA w qa i,(ml q i).g.length,gC w qa i⟩) (fun i=>zjc n (ml q i)) w h1 (fun i hi=>zzw O hi) (fun i hi W U=>zyp (ml q i) _ _ n J W hn (zab hc U) (M i hi).1 (M i hi).2 ((zxm O hi).below U))
 have E:zbW n q=if 16<q.length then 1 else zao ((List.range q.length).map fun i=>zjc n (ml q i)):=by
  unfold zbW ml;rw[zgZ,zje]
 rw[E];clear E M O hc;generalize zao ((List.range q.length).map fun i=>zjc n (ml q i))=F at *;generalize q.length=l at *;by_cases h:16<l
 ·rw[yb h];have h' :(16:Int)<(l:Int):=by omega
  go_enter Tryz.func67,Tryz.ntmps67
  go_wp2
  go_ret;exact⟨rfl,yk _ _⟩
 ·rw[ya h];have h' : ¬ (16:Int)<(l:Int):=by omega
  go_enter Tryz.func67,Tryz.ntmps67
  go_wp2_with (go_at_call 68;refine D.out.mono ?_;rintro e w4 ⟨rfl,I⟩;have Z:Hid (Below w.heap.size w w4):=I;clear I)
  go_ret;exact⟨rfl,Z.out⟩
theorem zyA(l:Nat)(pa:Option Addr)(pc:Nat)(w:World):yL 34 #[.slice pa l pc] w fun e w' => e=.returned (.int .i64 (if 40<l then 1 else 0))/\Below w.heap.size w w' := by
 by_cases h:40<l
 ·rw[yb h];have D:(40:Int)<(l:Int):=by omega
  go_enter Tryz.func34,Tryz.ntmps34
  go_wp2
  go_ret;exact⟨rfl,yk _ _⟩
 ·rw[ya h];have D:¬ (40:Int)<(l:Int):=by omega
  go_enter Tryz.func34,Tryz.ntmps34
  go_wp2
  go_ret;exact⟨rfl,yk _ _⟩
theorem zum(n:Int)(w:World):yL 36 #[.int .i64 n] w fun e w' => ∃ D E,e=.returned (.func (.func 67) #[] #[.pointer (some ⟨E,0,none⟩)])/\Below w.heap.size w w' /\ w'.cell? ⟨D,0,none⟩=some (.int .i64 n)/\w'.cell? ⟨E,0,none⟩=some (.func (.func 65) #[] #[.pointer (some ⟨D,0,none⟩)]):=by
 go_enter Tryz.func36,Tryz.ntmps36
 go_wp2
 go_ret;exact⟨w.heap.size,w.heap.size+1,rfl,zam _ _ _,zaM _ _ _ 0 _ rfl,zaN _ _ _ 0 _ rfl⟩
theorem ziz(w:World)(t:Nat)(D v1 v2 E F:Value):(w.alloc (.cells #[D,v1,v2,E,F] t)).heap[w.heap.size]?=some (.cells #[D,v1,v2,E,F] t (0,0)):=yK _ _
theorem zzu{a b c d e f:Int}:zao [a,b,c,d,e,f]=if a=0 then (if b=0 then (if c=0 then (if d=0 then (if e=0 then (if f=0 then 0 else f) else e) else d) else c) else b) else a:=rfl
theorem zAy(e:Int):(if e=0 then 0 else e)=e:=by
 split
 ·omega
 ·rfl
theorem zhV:zgG:=fun A W w hB hC hW=>by
 obtain⟨a0,a1,a2,a3,a4,c0,c1,c2,c3,c4⟩:=A;obtain⟨fs,rs,ps,qs,pt⟩:=W;obtain⟨b4,⟨b5,a6⟩,⟨b6,b1⟩,⟨b7,M⟩,b8,a7⟩:=hB;dsimp only[wlV] at b4 b5 a6 b6 b1 b7 M b8 a7 |-;have D0:Hid (∀ V,Below w.heap.size w V->Calls _ _ _ _ _):=fun V hV=>zdZ a0 c0 fs V b4 (hW.fs.below hV)
 have D1:Hid (∀ V,Below w.heap.size w V->yL 31 #[.slice a1 rs.length c1,.func (.func 32) #[] #[]] V fun e w' => e=.returned (.int .i64 (zcJ rs))/\Below V.heap.size V w'):=fun V hV=>by
  obtain⟨f,hf⟩:=zpE (hW.rs.below hV);have e:zcJ rs=zao ((List.range rs.length).map fun i=>zaE (rl rs i)):=by unfold rl;rw[zgZ,zij]
  rw[e];exact zsp 32 #[] (yJ Tryz.func32 (by kernel_rfl) rfl) a1 c1 rs.length (fun i=>⟨(f i).a0,(rl rs i).s.length,(f i).c0,(f i).a1,(rl rs i).hs.length,(f i).c1,(f i).a2,(rl rs i).i.length,(f i).c2,(f i).a3,(rl rs i).t.length,(f i).c3⟩) (fun i=>zaE (rl rs i)) V b5 (fun i hi=>(hf i hi).1) (fun i hi U hU=>zen (f i) (rl rs i) U (a6 i hi) ((hf i hi).2.below hU))
 have D2:Hid (∀ V,Below w.heap.size w V->yL 33 #[.slice a2 ps.length c2,.func (.func 34) #[] #[]] V fun e w' => e=.returned (.int .i64 (zel ps))/\Below V.heap.size V w'):=fun V hV=>by
  obtain⟨f,hf⟩:=zpB (hW.ps.below hV);have e:zel ps=zao ((List.range ps.length).map fun i=>zoI (pg ps i)):=by unfold pg;rw[zgZ,zjq]
  rw[e];exact zsn 34 #[] (yJ Tryz.func34 (by kernel_rfl) rfl) a2 c2 ps.length (fun i=>⟨(f i).1,(pg ps i).length,(f i).2⟩) (fun i=>zoI (pg ps i)) V b6 (fun i hi=>(hf i hi).1) (fun i hi U hU=>zyA _ _ _ U)
 have DM:Hid (∀ V,Calls _ _ _ _ _):=fun V=>zum (fs.length:Int) V
 have D3:Hid (∀ V cb cc,Below w.heap.size w V->V.cell? ⟨cb,0,none⟩=some (.int .i64 (fs.length:Int))->V.cell? ⟨cc,0,none⟩=some (.func (.func 65) #[] #[.pointer (some ⟨cb,0,none⟩)])->yL 35 #[.slice a3 qs.length c3,.func (.func 67) #[] #[.pointer (some ⟨cc,0,none⟩)]] V fun e w' => e=.returned (.int .i64 (zcI fs.length qs))/\Below V.heap.size V w'):=fun V cb cc hV a9 b0=>by
  obtain⟨f,hf⟩:=zpC (hW.qs.below hV);have e:zcI fs.length qs=zao ((List.range qs.length).map fun i=>zbW fs.length (qu qs i)):=by unfold qu;rw[zgZ,zih]
  rw[e];exact zso 67 #[.pointer (some ⟨cc,0,none⟩)] (yJ Tryz.func67 (by kernel_rfl) rfl) a3 c3 qs.length (fun i=>⟨(f i).1,(qu qs i).length,(f i).2⟩) (fun i=>zbW fs.length (qu qs i)) V b7 (fun i hi=>(hf i hi).1) (fun i hi U hU=>zwI (qu qs i) _ _ fs.length cb cc U b4 (zab a9 hU) (zab b0 hU) (M i hi).1 (M i hi).2 ((hf i hi).2.below hU))
 have D4:Hid (∀ V,Below w.heap.size w V->Calls _ _ _ _ _):=fun V hV=>zhI a4 c4 pt (fs.length:Int) V b8 a7 hC.s4 (hW.pt.below hV)
 have E:zby ⟨fs,rs,ps,qs,pt⟩=if zaO fs=0 then (if (if rs.length=fs.length/\ps.length=fs.length/\qs.length=fs.length then (0:Int) else 3)=0 then (if zcJ rs=0 then (if zel ps=0 then (if zcI fs.length qs=0 then zbf pt fs.length else zcI fs.length qs) else zel ps) else zcJ rs) else (if rs.length=fs.length/\ps.length=fs.length/\qs.length=fs.length then (0:Int) else 3)) else zaO fs:=by
  unfold zby;rw[zzu,zAy]
 rw[E];clear E hC hW a6 b1 M a7;generalize zaO fs=E0 at *;generalize zcJ rs=E1 at *;generalize zel ps=E2 at *;generalize zcI fs.length qs=E3 at *;generalize zbf pt fs.length=E4 at *;generalize fs.length=T at *;generalize rs.length=Z at *;generalize ps.length=O at *;generalize qs.length=J at *;generalize pt.length=nt at *;obtain⟨F,hF⟩:∃ F:Int,(if E0=0 then (if (if Z=T/\O=T/\J=T then (0:Int) else 3)=0 then (if E1=0 then (if E2=0 then (if E3=0 then E4 else E3) else E2) else E1) else (if Z=T/\O=T/\J=T then (0:Int) else 3)) else E0)=F:=⟨_,rfl⟩;have I:Hid (_=F):=hF;rw[hF];clear hF
 go_enter Tryz.func10,Tryz.ntmps10
 go_wp2_with fail
 refine ye (D0.out _ (zaa _ _)) ?_;rintro e V0 ⟨rfl,D⟩;have BV:Hid (Below w.heap.size w V0):=(zaa _ _).trans (D.mono (by simp));have X0:Hid _:=zav (ziz w 28 (.slice a0 T c0) (.slice a1 Z c1) (.slice a2 O c2) (.slice a3 J c3) (.slice a4 nt c4)) D;clear D D0;obtain⟨l0,l1,l2,l3,l4,ll⟩:=zaZ X0.out;by_cases e0:E0=0;rotate_left
 ·rw[ya e0] at I;have hz:(E0 == 0)=false:=by simp[e0]
  go_wp2
  go_ret;exact⟨by rw[<- I.out];rfl,BV.out⟩
 subst e0;rw[yb rfl] at I;by_cases h1:Z=T;rotate_left
 ·rw[show (if Z=T/\O=T/\J=T then (0:Int) else 3)=3 from ya (fun h=>h1 h.1),ya (by decide)] at I;have hz:((Z:Int) ==(T:Int))=false:=by simp;omega
  go_wp2
  go_ret;exact⟨by rw[<- I.out];rfl,BV.out⟩
 subst h1;by_cases h2:O=Z;rotate_left
 ·rw[show (if Z=Z/\O=Z/\J=Z then (0:Int) else 3)=3 from ya (fun h=>h2 h.2.1),ya (by decide)] at I;have hz:((O:Int) ==(Z:Int))=false:=by simp;omega
  go_wp2
  go_ret;exact⟨by rw[<- I.out];rfl,BV.out⟩
 subst h2;by_cases h3:J=O;rotate_left
 ·rw[show (if O=O/\O=O/\J=O then (0:Int) else 3)=3 from ya (fun h=>h3 h.2.2),ya (by decide)] at I;have hz:((J:Int) ==(O:Int))=false:=by simp;omega
  go_wp2
  go_ret;exact⟨by rw[<- I.out];rfl,BV.out⟩
 subst h3;rw[show (if J=J/\J=J/\J=J then (0:Int) else 3)=0 from yb ⟨rfl,rfl,rfl⟩,yb rfl] at I
 go_wp2_with fail
 refine ye (D1.out _ BV.out) ?_;rintro e V1 ⟨rfl,D⟩;have a5:Hid (Below w.heap.size w V1):=BV.out.trans (D.mono BV.out.size);have X1:Hid _:=zav X0.out D;clear D D1 l0 l1 l2 l3 l4 ll X0;obtain⟨l0,l1,l2,l3,l4,ll⟩:=zaZ X1.out;by_cases e1:E1=0;rotate_left
 ·rw[ya e1] at I;have hz:(E1 == 0)=false:=by simp[e1]
  go_wp2
  go_ret;exact⟨by rw[<- I.out];rfl,a5.out⟩
 subst e1;rw[yb rfl] at I
 go_wp2_with fail
 refine ye (D2.out _ a5.out) ?_;rintro e V2 ⟨rfl,D⟩;have b2:Hid (Below w.heap.size w V2):=a5.out.trans (D.mono a5.out.size);have X2:Hid _:=zav X1.out D;clear D D2 l0 l1 l2 l3 l4 ll X1 a5 BV;obtain⟨l0,l1,l2,l3,l4,ll⟩:=zaZ X2.out;by_cases e2:E2=0;rotate_left
 ·rw[ya e2] at I;have hz:(E2 == 0)=false:=by simp[e2]
  go_wp2
  go_ret;exact⟨by rw[<- I.out];rfl,b2.out⟩
 subst e2;rw[yb rfl] at I
 go_wp2_with fail
 go_region_held3 (fun c6=>c6.cell? ⟨w.heap.size,3,none⟩=some (.slice a3 J c3)) (go_keep) (first|(go_at_call 36;refine ye (DM.out V2.drew) ?_;rintro e V3 ⟨cb,cc,rfl,D,a9,b0⟩;have b3:Hid (Below w.heap.size w V3):=b2.out.drew.trans (D.mono b2.out.size);have X3:Hid _:=zav (W:=V2.drew) X2.out D;have CB:Hid _:=a9;have CC:Hid _:=b0;clear D a9 b0;obtain⟨m0,m1,m2,m3,m4,mm⟩:=zaZ X3.out)|(go_at_call 35;refine ye (D3.out V3 cb cc b3.out CB.out CC.out) ?_;rintro e V4 ⟨rfl,D⟩;have a8:Hid (Below w.heap.size w V4):=b3.out.trans (D.mono b3.out.size);have X4:Hid _:=zav X3.out D;clear D;obtain⟨n0,n1,n2,n3,n4,nn⟩:=zaZ X4.out))
 clear l0 l1 l2 l3 l4 ll m0 m1 m2 m3 m4 mm D3 DM;by_cases e3:E3=0;rotate_left
 ·rw[ya e3] at I;have hz:(E3 == 0)=false:=by simp[e3]
  go_wp2
  go_ret;exact⟨by rw[<- I.out];rfl,a8.out⟩
 subst e3;rw[yb rfl] at I
 go_wp2_with (go_at_call 37;refine ye (D4.out _ a8.out) ?_;rintro e V5 ⟨rfl,D⟩;have b9:Hid (Below w.heap.size w V5):=a8.out.trans (D.mono a8.out.size);clear D)
 go_ret;exact⟨by rw[<- I.out];rfl,b9.out⟩
theorem zxV(A:RA)(R:Rl)(x:Ac)(E:Int)(w:World)(T:zuV R)(I:zdd w A R)(U:zaE R=E)(F:E≠0) :
  yL 148 #[rlV A R,acV x] w fun e w' => ∃ B:RA,e=.returned (.tuple #[rlV B zbL,.int .i64 0,.int .i64 E])/\Below w.heap.size w w' /\ zdd w' B zbL:=by
 have J:Hid (∀ W,zdd W A R->Calls _ _ _ _ _):=fun W I=>zen A R W T I;rw[U] at J;have hz:(E == 0)=false:=by simp[F]
 have M:Hid _:=zgM w A R x I;clear I U T F;obtain⟨xk,xa,xb,xc,xn⟩:=x;obtain⟨a0,a1,a2,a3,c0,c1,c2,c3⟩:=A;dsimp only[rlV,acV] at *
 go_enter Tryz.func148,Tryz.ntmps148
 go_wp2_with fail
 refine ye (J.out _ M.out.rl) ?_;rintro e V1 ⟨rfl,Z⟩;have D:Hid _:=M.out.below Z;clear Z J M;obtain⟨r0,r1,r2,r3,rf,rl⟩:=zai D.out.r;obtain⟨z0,z1,z2,z3,zf,zl⟩:=zai D.out.z;obtain⟨y0,y1,y2,y3,y4,yl⟩:=zaZ D.out.x
 go_wp2
 obtain⟨X,O⟩:∃ X,(((V1.setCell ⟨w.heap.size+1+1,0,none⟩ (.slice none 0 0)).setCell ⟨w.heap.size+1+1,1,none⟩ (.slice none 0 0)).setCell ⟨w.heap.size+1+1,2,none⟩ (.slice none 0 0)).setCell ⟨w.heap.size+1+1,3,none⟩ (.slice none 0 0)=X:=⟨_,rfl⟩;have x0:X.heap[w.heap.size+1+1]?=some (.cells #[.slice none 0 0,.slice none 0 0,.slice none 0 0,.slice none 0 0] 50 (0,0)):=by rw[<- O];exact zcN D.out.z
 have xb:Below w.heap.size w X:=by rw[<- O];exact(((D.out.bel.setCell (by simp;omega) _).setCell (by simp;omega) _).setCell (by simp;omega) _).setCell (by simp;omega) _
 rw[O];obtain⟨m0,m1,m2,m3,mf,ml⟩:=zai x0;exact yv (v:=.tuple #[.agg #[.slice none 0 0,.slice none 0 0,.slice none 0 0,.slice none 0 0],.int .i64 0,.int .i64 E]) (by simp[results,Tryz.results148,go_sem,m0,m1,m2,m3]) rfl ⟨⟨none,none,none,none,0,0,0,0⟩,rfl,xb,zjv _ _⟩
theorem zxW(A:RA)(R:Rl)(x:Ac)(w:World)(I:zaE R=0)(J:zdd w A R)(ha:¬ isH x.a) :
  yL 148 #[rlV A R,acV x] w fun e w' => ∃ B:RA,e=.returned (.tuple #[rlV B zbL,.int .i64 0,.int .i64 4])/\Below w.heap.size w w' /\ zdd w' B zbL:=by
 have hl:=(zay I).2.1;have M:Hid (∀ W,zdd W A R->Calls _ _ _ _ _):=fun W J=>zen A R W (zdU I) J;rw[I] at M;have O:Hid (∀ W,Calls _ _ _ _ _):=fun W=>zcE A R x.a W hl;rw[show decide (isH x.a)=false from yE ha] at O;have T:Hid _:=zgM w A R x J;clear J ha I hl;obtain⟨xk,xa,xb,xc,xn⟩:=x;obtain⟨a0,a1,a2,a3,c0,c1,c2,c3⟩:=A;dsimp only[rlV,acV] at *
 go_enter Tryz.func148,Tryz.ntmps148
 go_wp2_with fail
 refine ye (M.out _ T.out.rl) ?_;rintro e V1 ⟨rfl,F⟩;have D:Hid _:=T.out.below F;clear F M T;obtain⟨Z,r1,r2,r3,rf,rl⟩:=zai D.out.r;obtain⟨z0,z1,z2,z3,zf,zl⟩:=zai D.out.z;obtain⟨y0,y1,y2,y3,y4,yl⟩:=zaZ D.out.x
 go_wp2_with fail
 refine ye (O.out _) ?_;rintro e V2 ⟨rfl,F⟩;have E:Hid _:=D.out.below F;clear Z r1 r2 r3 rf rl z0 z1 z2 z3 zf zl y0 y1 y2 y3 y4 yl;clear F O D;obtain⟨Z,r1,r2,r3,rf,rl⟩:=zai E.out.r;obtain⟨z0,z1,z2,z3,zf,zl⟩:=zai E.out.z;obtain⟨y0,y1,y2,y3,y4,yl⟩:=zaZ E.out.x
 go_wp2
 obtain⟨X,U⟩:∃ X,(((V2.setCell ⟨w.heap.size+1+1,0,none⟩ (.slice none 0 0)).setCell ⟨w.heap.size+1+1,1,none⟩ (.slice none 0 0)).setCell ⟨w.heap.size+1+1,2,none⟩ (.slice none 0 0)).setCell ⟨w.heap.size+1+1,3,none⟩ (.slice none 0 0)=X:=⟨_,rfl⟩;have x0:X.heap[w.heap.size+1+1]?=some (.cells #[.slice none 0 0,.slice none 0 0,.slice none 0 0,.slice none 0 0] 50 (0,0)):=by rw[<- U];exact zcN E.out.z
 have xb:Below w.heap.size w X:=by rw[<- U];exact(((E.out.bel.setCell (by simp;omega) _).setCell (by simp;omega) _).setCell (by simp;omega) _).setCell (by simp;omega) _
 rw[U];obtain⟨m0,m1,m2,m3,mf,ml⟩:=zai x0;exact yv (v:=.tuple #[.agg #[.slice none 0 0,.slice none 0 0,.slice none 0 0,.slice none 0 0],.int .i64 0,.int .i64 4]) (by simp[results,Tryz.results148,go_sem,m0,m1,m2,m3]) rfl ⟨⟨none,none,none,none,0,0,0,0⟩,rfl,xb,zjv _ _⟩
theorem zxY(A:RA)(R:Rl)(x:Ac)(w:World)(J:zaE R=0)(M:zdd w A R)(ha:isH x.a)(hk:x.k≠1/\x.k≠2/\x.k≠4/\x.k≠6/\x.k≠5/\x.k≠11/\x.k≠14/\x.k≠15/\x.k≠3/\x.k≠7/\x.k≠8) :
  yL 148 #[rlV A R,acV x] w fun e w' => ∃ B:RA,e=.returned (.tuple #[rlV B zbL,.int .i64 0,.int .i64 3])/\Below w.heap.size w w' /\ zdd w' B zbL:=by
 have hl:=(zay J).2.1;have O:Hid (∀ W,zdd W A R->Calls _ _ _ _ _):=fun W M=>zen A R W (zdU J) M;rw[J] at O;have T:Hid (∀ W,Calls _ _ _ _ _):=fun W=>zcE A R x.a W hl;rw[show decide (isH x.a)=true from yF ha] at T;have D2:Hid (∀ W,Calls _ _ _ _ _):=fun W=>zsD x.k W hk;have U:Hid _:=zgM w A R x M;clear M ha J hl hk;obtain⟨xk,xa,xb,xc,xn⟩:=x;obtain⟨a0,a1,a2,a3,c0,c1,c2,c3⟩:=A;dsimp only[rlV,acV] at *
 go_enter Tryz.func148,Tryz.ntmps148
 go_wp2_with fail
 refine ye (O.out _ U.out.rl) ?_;rintro e V1 ⟨rfl,F⟩;have D:Hid _:=U.out.below F;clear F O U;obtain⟨r0,r1,r2,r3,rf,rl⟩:=zai D.out.r;obtain⟨z0,z1,z2,z3,zf,zl⟩:=zai D.out.z;obtain⟨y0,y1,y2,y3,y4,yl⟩:=zaZ D.out.x
 go_wp2_with fail
 refine ye (T.out _) ?_;rintro e V2 ⟨rfl,F⟩;have E:Hid _:=D.out.below F;clear r0 r1 r2 r3 rf rl z0 z1 z2 z3 zf zl y0 y1 y2 y3 y4 yl;clear F T D;obtain⟨r0,r1,r2,r3,rf,rl⟩:=zai E.out.r;obtain⟨z0,z1,z2,z3,zf,zl⟩:=zai E.out.z;obtain⟨y0,y1,y2,y3,y4,yl⟩:=zaZ E.out.x;have a6:∀ w:World,(binOp BinOp.eql 209 Value.nilFunc Value.nilFunc).run Tryz.prog w=.ok (.bool true) w:=fun _=>by kernel_rfl
 go_wp2_with fail
 refine ye (D2.out _) ?_;rintro e w6 ⟨rfl,I⟩;have a5:=I.symm;clear I;subst a5
 go_wp2
 obtain⟨X,Z⟩:∃ X,(((V2.setCell ⟨w.heap.size+1+1,0,none⟩ (.slice none 0 0)).setCell ⟨w.heap.size+1+1,1,none⟩ (.slice none 0 0)).setCell ⟨w.heap.size+1+1,2,none⟩ (.slice none 0 0)).setCell ⟨w.heap.size+1+1,3,none⟩ (.slice none 0 0)=X:=⟨_,rfl⟩;have x0:X.heap[w.heap.size+1+1]?=some (.cells #[.slice none 0 0,.slice none 0 0,.slice none 0 0,.slice none 0 0] 50 (0,0)):=by rw[<- Z];exact zcN E.out.z
 have xb:Below w.heap.size w X:=by rw[<- Z];exact(((E.out.bel.setCell (by simp;omega) _).setCell (by simp;omega) _).setCell (by simp;omega) _).setCell (by simp;omega) _
 rw[Z];obtain⟨m0,m1,m2,m3,mf,ml⟩:=zai x0;exact yv (v:=.tuple #[.agg #[.slice none 0 0,.slice none 0 0,.slice none 0 0,.slice none 0 0],.int .i64 0,.int .i64 3]) (by simp[results,Tryz.results148,go_sem,m0,m1,m2,m3]) rfl ⟨⟨none,none,none,none,0,0,0,0⟩,rfl,xb,zjv _ _⟩
theorem zbh{R:Rl}{x:Ac}{q:Rs}{k:Int}{G F:Nat}(J:x.k=k)(E:∀ args w,(callFunc G args).run Tryz.prog w=.ok (.enter G args) w)
  (h:∀ W,yL 162 #[.int .i64 k] W fun e w' => ∃ D,e=.returned (.func (.func G) #[] #[.pointer (some ⟨D,0,none⟩)])/\Below W.heap.size W w' /\ w'.cell? ⟨D,0,none⟩=some (.func (.func F) #[] #[]))
  (hd:∀ D (w:World),w.cell? ⟨D,0,none⟩=some (.func (.func F) #[] #[])->zme G #[.pointer (some ⟨D,0,none⟩)] w R x q):zkp R x q:=fun W=>by
 rw[J];refine(h W).mono ?_;rintro e w' ⟨D,rfl,I,hc⟩;exact⟨G,_,rfl,I,E,fun M h0=>hd D M ((h0.cell (yd _ _ hc)).trans hc)⟩
theorem zia{R:Rl}{x:Ac}{q:Rs}{k:Int}{G:Nat}(E:x.k=k)(D:∀ args w,(callFunc G args).run Tryz.prog w=.ok (.enter G args) w)
  (h:∀ W,yL 162 #[.int .i64 k] W fun e w' => e=.returned (.func (.func G) #[] #[])/\w' = W) (hd:∀ w:World,zme G #[] w R x q):zkp R x q:=fun W=>by
 rw[E];refine(h W).mono ?_;rintro e w' ⟨rfl,rfl⟩;exact⟨G,_,rfl,yk _ _,D,fun F _=>hd F⟩
theorem zxG{R:Rl}{a n:Int}(h:zfl R.s n=0):zrU R a n=⟨0,⟨rS (zfl R.s n) (mkS R.s n),R.hs.set a.toNat (rH (zfl R.s n) (mkH R.s)),R.i,R.t⟩,0⟩:=by
 unfold zrU;rw[zlf h,h];rfl
theorem zxF{R:Rl}{b:Int}{h:Int × Int}{c:Bool}(e:zvL R.s h.1 h.2=0):zrT R b h c=⟨0,⟨rS (zvL R.s h.1 h.2) (zzB R.s h.1 c),R.hs.set b.toNat (rH (zvL R.s h.1 h.2) (mkH R.s)),R.i,R.t⟩,0⟩:=by
 unfold zrT;rw[zlf e,e];rfl
theorem zAv(R:Rl)(x:Ac)(hR:zaE R=0)(ha:isH x.a)(hk:¬ (x.k≠1/\x.k≠2/\x.k≠4/\x.k≠6/\x.k≠5/\x.k≠11/\x.k≠14/\x.k≠15/\x.k≠3/\x.k≠7/\x.k≠8)):zkp R x (doG R x):=by
 obtain⟨wf,hl,hg,_⟩:=zay hR;have M:=(zcA hg).1;unfold doG;rw[yb ha];by_cases k1:x.k=1
 ·rw[yb k1];exact zia k1 (yJ Tryz.func165 (by kernel_rfl) rfl) zvm (fun w=>zmZ w R x hl ha _ _ _ (zyq R.s x.n wf) _ (zlg _ _ _) zxG)
 rw[ya k1];by_cases k2:x.k=2
 ·rw[yb k2];exact zbh k2 (yJ Tryz.func183 (by kernel_rfl) rfl) zvn (fun D w hc=>zkw _ (yJ Tryz.func167 (by kernel_rfl) rfl) D w hc R x hl ha _ _ (zvD R.s (hd R x.a) wf))
 rw[ya k2];by_cases k4:x.k=4
 ·rw[yb k4];exact zbh k4 (yJ Tryz.func183 (by kernel_rfl) rfl) zvo (fun D w hc=>zkw _ (yJ Tryz.func168 (by kernel_rfl) rfl) D w hc R x hl ha _ _ (zrl R.s (hd R x.a) wf))
 rw[ya k4];by_cases k6:x.k=6
 ·rw[yb k6];exact zia k6 (yJ Tryz.func169 (by kernel_rfl) rfl) zvq (fun w=>zns w R x wf hl ha)
 rw[ya k6];by_cases k5:x.k=5
 ·rw[yb k5];exact zbh k5 (yJ Tryz.func187 (by kernel_rfl) rfl) zvp (fun D w hc=>zpu _ (yJ Tryz.func171 (by kernel_rfl) rfl) D w hc R x wf hl ha x.n (fun a c W _=>zlM a _ c x.n W))
 rw[ya k5];by_cases J:x.k=11
 ·rw[yb J];unfold zvd;by_cases hn:0<=x.n/\x.n<R.i.length
  ·rw[yb hn];obtain⟨j,hj⟩:∃ j:Nat,x.n=j:=⟨x.n.toNat,by omega⟩;refine zbh J (yJ Tryz.func187 (by kernel_rfl) rfl) zmz (fun D w hc=>zpu _ (yJ Tryz.func172 (by kernel_rfl) rfl) D w hc R x wf hl ha _ (fun a c W Z=>?_));rw[hj,yi];exact zjY a c R.i j W Z (by omega) M
  ·rw[ya hn];exact zbh J (yJ Tryz.func187 (by kernel_rfl) rfl) zmz (fun D w hc=>zyr _ (yJ Tryz.func172 (by kernel_rfl) rfl) D w hc R x wf hl ha 4 0 (by decide) (fun a c W _=>zli a _ c x.n W hn M))
 rw[ya J];by_cases O:x.k=14
 ·rw[yb O];exact zbh O (yJ Tryz.func188 (by kernel_rfl) rfl) zsB (fun D w hc=>zjI _ (yJ Tryz.func174 (by kernel_rfl) rfl) D w hc R x hl ha _ _ (fun a c W Z=>zke R.s (hd R x.a) x wf a c W Z))
 rw[ya O];by_cases T:x.k=15
 ·rw[yb T];exact zbh T (yJ Tryz.func188 (by kernel_rfl) rfl) zsC (fun D w hc=>zjI _ (yJ Tryz.func175 (by kernel_rfl) rfl) D w hc R x hl ha _ _ (fun a c W Z=>zlv R.s (hd R x.a) x wf a c W Z))
 rw[ya T];have kk:x.k=3\/x.k=7\/x.k=8:=by omega
 rw[yb kk];have U:(∀ args w,(callFunc 191 args).run Tryz.prog w=.ok (.enter 191 args) w):=yJ Tryz.func191 (by kernel_rfl) rfl;have eh:=yJ Tryz.func178 (by kernel_rfl) rfl;have eu:=yJ Tryz.func179 (by kernel_rfl) rfl;have ei:=yJ Tryz.func177 (by kernel_rfl) rfl;by_cases E:isH x.b
 ·rw[yb E];by_cases k7:x.k=7
  ·rw[yb k7];exact zbh k7 U zpb (fun D w hc=>zjN _ eh D w hc R x hl E _ (zvM w R x hl ha E _ _ _ (zym R.s (hd R x.a) (decide (x.n=1)) wf) _ (zlg _ _ _) zxF))
  rw[ya k7];by_cases k8:x.k=8
  ·rw[yb k8];exact zbh k8 U zpc (fun D w hc=>zjN _ eu D w hc R x hl E _ (zAd w R x wf hl ha E))
  rw[ya k8];have k3:x.k=3:=by omega
  refine zbh k3 U zpa (fun D w hc=>zjN _ ei D w hc R x hl E _ ?_);by_cases F:x.c<0
  ·rw[yb F];exact zvW w R x wf hl ha E F
  rw[ya F];by_cases I:isH x.c
  ·rw[yb I];exact zvX w R x wf hl ha E I
  ·rw[ya I];exact zti w R x wf hl ha E F I
 ·rw[ya E];rcases kk with k3|k7|k8
  ·exact zbh k3 U zpa (fun D w hc=>zmc _ ei D w hc R x hl E)
  ·exact zbh k7 U zpb (fun D w hc=>zmc _ eh D w hc R x hl E)
  ·exact zbh k8 U zpc (fun D w hc=>zmc _ eu D w hc R x hl E)
def zzd:Prop:=∀ (A:RA) (R:Rl) (x:Ac) (w:World),zuV R->zdd w A R ->
 yL 148 #[rlV A R,acV x] w fun e w' => ∃ B:RA,e=.returned (.tuple #[rlV B (doF R x).r,.int .i64 (doF R x).o,.int .i64 (doF R x).e])/\Below w.heap.size w w' /\ zdd w' B (doF R x).r/\((doF R x).e=0->RlO w.heap.size w' B (doF R x).r)
theorem zxU:zzd:=fun A R x w hB I=>by
 by_cases D:zaE R=0
 ·have e:doF R x=doG R x:=yb D;rw[e];by_cases ha:isH x.a
  ·by_cases U:x.k≠1/\x.k≠2/\x.k≠4/\x.k≠6/\x.k≠5/\x.k≠11/\x.k≠14/\x.k≠15/\x.k≠3/\x.k≠7/\x.k≠8
   ·have J:doG R x=bad 3:=by
     obtain⟨h1,E,Z,h6,h5,M,O,T,F,h7,h8⟩:=U;unfold doG;rw[yb ha,ya h1,ya E,ya Z,ya h6,ya h5,ya M,ya O,ya T,ya (by omega)]
    rw[J];exact(zxY A R x w D I ha U).mono (fun e w' ⟨B,h1,E,F⟩=>⟨B,h1,E,F,fun h=>absurd h (by decide)⟩)
   ·have h:=zxX A R x _ w D I ha (zAv R x D ha U);have s:=zzj R x;by_cases h0:(doG R x).e=0
    ·rw[yb h0,yb h0] at h;exact h
    ·rw[ya h0,ya h0] at h;rw[(s h0).1,(s h0).2];exact h
  ·have J:doG R x=bad 4:=(by unfold doG;rw[ya ha]);rw[J];exact(zxW A R x w D I ha).mono (fun e w' ⟨B,h1,E,F⟩=>⟨B,h1,E,F,fun h=>absurd h (by decide)⟩)
 ·have e:doF R x=bad (zaE R):=ya D;rw[e];exact(zxV A R x _ w hB I rfl D).mono (fun e w' ⟨B,h1,E,F⟩=>⟨B,h1,E,F,fun h=>absurd h D⟩)
end Go.Proofs.YtcbcpomacdngmaaGreat
