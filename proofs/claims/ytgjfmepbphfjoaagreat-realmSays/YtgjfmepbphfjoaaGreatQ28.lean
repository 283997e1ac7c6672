/-
  x
-/
import Derived.Test.YtgjfmepbphfjoaaGreatQ27
namespace Go.Proofs.YtgjfmepbphfjoaaGreat
set_option maxRecDepth 100000
set_option maxHeartbeats 4000000
set_option linter.unusedVariables false
open Go.RowKit
def zfp:List (Int × Int)->Int
 | []=>-1
 | h :: _=>h.1
theorem zmx{wr w2:World}{S:List Nd}{n:Nat}{K:Nat->Value}{v:Value}{b0:Nat}(h0:0<n)(M:b0<wr.heap.size)(w:zca wr.heap.size S n K v w2):∃ g cap,v=.slice (some ⟨g,0,none⟩) n cap/\wr.heap.size<=g/\g<w2.heap.size/\n<=cap/\cap<=9223372036854775807/\zca wr.heap.size S n K (.slice (some ⟨g,0,none⟩) n cap) (w2.setCell ⟨b0,0,none⟩ (.slice (some ⟨g,0,none⟩) n cap)):=by
 have F:=w.1
 obtain⟨g,cap,rfl,h1,J,A,D⟩:∃ g cap,v=.slice (some ⟨g,0,none⟩) n cap/\wr.heap.size<=g/\g<w2.heap.size/\n<=cap/\cap<=9223372036854775807:=by
  have hl:=F.lt;rcases F.2 with ⟨_,h⟩ |⟨g,cap,I,h,h1,_,A,D,_⟩
  ·omega
  ·subst h;exact⟨g,cap,rfl,h1,(hl g rfl).2,A,by unfold maxLen at D;omega⟩
 exact⟨g,cap,rfl,h1,J,A,D,w.other (fun b O _=>yo _ _ _ _ (by show b≠b0;omega))⟩
theorem zmj{S:List Nd}{k:Nat}(w:k<S.length):zaT S (S.length+1) (k:Int)=zbj S k:=by
 rw[zaT,yd (zcZ.2 w),yg];rfl
def zjI(S T:List Nd)(P C:Int)(hs:List (Int × Int))(E R:Int):Prop :=
 (E≠0/\R=E/\T=[]) \/
 ∃ w ch:Nat,P=w/\C=ch/\E=0/\S.length<=24/\w<S.length/\ch<S.length /\
  (zef S ch w=false->R=6/\T=[]) /\
  (zef S ch w=true->(∀ h ∈ hs,∃ q:Nat,h.1=q/\q<S.length) /\
   ((∃ h ∈ hs,(nd S h.1.toNat).p≠w)->R=6/\T=[]) /\
   ((∀ h ∈ hs,(nd S h.1.toNat).p=w)->R=0/\(∀ i,i<S.length->(nd S i).ks.length<=1000)/\T.length=S.length /\
    ((zfp hs=ch/\T=S) \/
    (zfp hs≠ch/\-1<=zfp hs/\w≠ch/\((nd S ch).p = -1\/∃ A:Nat,A<S.length/\A≠ch/\(nd S ch).p=A) /\
     ∃ at' : Nat,zgY (zfp hs) ch (nd (leaveG S ch) w).ks++(if zfp hs = -1 then [(ch:Int)] else [])=ins (nd (leaveG S ch) w).ks at' ch/\(nd (leaveG S ch) w).ks.length<=1000/\T=zaQ (leaveG S ch) w ch at'))))
theorem zqt(a:Option Addr)(c:Nat)(S:List Nd)(P C pu cu:Int)(ha:Option Addr)(hc:Nat)(hs:List (Int × Int))(E R:Int)(T:List Nd)(w:World)(hN:S.length<=9223372036854775807)(hC:zeu a c S)(hS:zae w a S)(hH:zam w ha hs)(hm:hs.length<=1)(hE:zar S ((P,pu) ::(C,cu) :: hs)=E)(hI:zjI S T P C hs E R) :
  Calls Tryz.prog 44 #[.agg #[.slice a S.length c],.agg #[.int .i64 P,.int .i64 pu],.agg #[.int .i64 C,.int .i64 cu],.slice ha hs.length hc] w fun e w' => ∃ a' c', e=.returned (.tuple #[.agg #[.slice a' T.length c'],.int .i64 R])/\Below w.heap.size w w' /\ zae w' a' T:=by
 have df:=fun(W:World) (g8:Option Addr) (o6:Nat) (hW:zae W a S) (y4:zam W g8 ((P,pu) ::(C,cu) :: hs))=>zbd a c S g8 o6 ((P,pu) ::(C,cu) :: hs) W hN hC hW (by simp;omega) y4;rw[hE] at df;have DF:Hid (∀ (W:World) (g8:Option Addr) (o6:Nat),zae W a S->zam W g8 ((P,pu) ::(C,cu) :: hs)->Calls Tryz.prog 83 #[.agg #[.slice a S.length c],.slice g8 (hs.length+2) o6] W fun e w' => e=.returned (.int .i64 E)/\Below W.heap.size W w'):=df;have HS:Hid (zae w a S):=hS;have HH:Hid (zam w ha hs):=hH;have DB:Hid _:=zmg;obtain⟨i0,y8,A4,A5,A6⟩:=info_parts zqW;clear hS hC df hE hH;obtain⟨m,p2⟩:∃ m,hs.length=m:=⟨_,rfl⟩;have HM:Hid (hs.length=m):=p2;rw[p2] at hm DF |-;have z5:¬ (1:Int)<(m:Int):=by omega
 have E0:decide ((1:Int)<(m:Int))=false:=decide_eq_false z5;obtain⟨n,hn⟩:∃ n,S.length=n:=⟨_,rfl⟩;have HN:Hid (S.length=n):=hn;clear p2;have HC:Hid (zjI S T P C hs E R):=hI;have t1:=hN;rw[hn] at hN DF |-;clear hn hI
 go_enter Tryz.func44,Tryz.ntmps44
 go_upto_region 4 with fail
 obtain⟨W4,j4⟩:∃ W4,W4=((((w.alloc (.cells #[.slice a n c] 24)).alloc (.cells #[.int .i64 P,.int .i64 pu] 39)).alloc (.cells #[.int .i64 C,.int .i64 cu] 39)).alloc (.cells #[.slice none 0 0] 24)):=⟨_,rfl⟩;rw[<- j4];have j5:Below (w.heap.size+1+1+1+1) ((((w.alloc (.cells #[.slice a n c] 24)).alloc (.cells #[.int .i64 P,.int .i64 pu] 39)).alloc (.cells #[.int .i64 C,.int .i64 cu] 39)).alloc (.cells #[.slice none 0 0] 24)) W4:=by rw[j4];exact yj _ _
 obtain⟨l0,l1,l2,l3,l4,l5,l6⟩:=zbC j5;have n5:W4.heap.size=w.heap.size+1+1+1+1:=by rw[j4];simp
 have i2:Hid (Below w.heap.size w W4):=(zaq _ _ _ _ _).trans (j5.mono (by omega));have i4:Hid (Below (w.heap.size+1+1+1+1) ((((w.alloc (.cells #[.slice a n c] 24)).alloc (.cells #[.int .i64 P,.int .i64 pu] 39)).alloc (.cells #[.int .i64 C,.int .i64 cu] 39)).alloc (.cells #[.slice none 0 0] 24)) W4):=j5;clear j4 j5
 go_cut [11] (fun s11 wx=>s11=.int .i64 E/\Hid (Below (w.heap.size+1+1+1+1) ((((w.alloc (.cells #[.slice a n c] 24)).alloc (.cells #[.int .i64 P,.int .i64 pu] 39)).alloc (.cells #[.int .i64 C,.int .i64 cu] 39)).alloc (.cells #[.slice none 0 0] 24)) wx))
 case first =>
  have F1:=World.new_ne W4 _ l0;have F2:=World.new_ne W4 _ l1;have F3:=World.new_ne W4 _ l2;have F4:=World.new_ne W4 _ l3;have F5:=World.new_ne W4 _ l4
  cases hs with
  | nil =>
   have e0:m=0:=HM.out.symm;subst e0
   cases ha with
   | none =>
    go_region_held3 (fun U=>U.cell? ⟨w.heap.size,0,none⟩=some (.slice a n c)/\U.cell? ⟨w.heap.size+1,0,none⟩=some (.int .i64 P)/\U.cell? ⟨w.heap.size+1,1,none⟩=some (.int .i64 pu)/\U.cell? ⟨w.heap.size+1+1,0,none⟩=some (.int .i64 C)/\U.cell? ⟨w.heap.size+1+1,1,none⟩=some (.int .i64 cu)) (go_keep) (first|(go_at_call 83;refine(DF.out _ _ 2 (HS.out.below (i2.out.alloc (by omega) _).drew) (zfk _ _ _ _ _ _ (by go_simp) (by go_simp) (by go_simp) (by go_simp))).mono ?_;rintro e w6 ⟨rfl,c8⟩;have b6:Below (w.heap.size+1+1+1+1) ((((w.alloc (.cells #[.slice a n c] 24)).alloc (.cells #[.int .i64 P,.int .i64 pu] 39)).alloc (.cells #[.int .i64 C,.int .i64 cu] 39)).alloc (.cells #[.slice none 0 0] 24)) w6:=(i4.out.alloc (by omega) _).drew.trans (c8.mono (by simp;omega));obtain⟨m0,m1,m2,m3,m4,m5,m6⟩:=zbC b6;have H6:Hid (Below (w.heap.size+1+1+1+1) ((((w.alloc (.cells #[.slice a n c] 24)).alloc (.cells #[.int .i64 P,.int .i64 pu] 39)).alloc (.cells #[.int .i64 C,.int .i64 cu] 39)).alloc (.cells #[.slice none 0 0] 24)) w6):=b6;clear c8 b6))
    go_wp2_with fail
    go_meet
    case rel=>exact⟨rfl,H6⟩
   | some A0 =>
    go_region_held3 (fun U=>U.cell? ⟨w.heap.size,0,none⟩=some (.slice a n c)/\U.cell? ⟨w.heap.size+1,0,none⟩=some (.int .i64 P)/\U.cell? ⟨w.heap.size+1,1,none⟩=some (.int .i64 pu)/\U.cell? ⟨w.heap.size+1+1,0,none⟩=some (.int .i64 C)/\U.cell? ⟨w.heap.size+1+1,1,none⟩=some (.int .i64 cu)) (go_keep) (first|(go_at_call 83;refine(DF.out _ _ 2 (HS.out.below (i2.out.alloc (by omega) _).drew) (zfk _ _ _ _ _ _ (by go_simp) (by go_simp) (by go_simp) (by go_simp))).mono ?_;rintro e w6 ⟨rfl,c8⟩;have b6:Below (w.heap.size+1+1+1+1) ((((w.alloc (.cells #[.slice a n c] 24)).alloc (.cells #[.int .i64 P,.int .i64 pu] 39)).alloc (.cells #[.int .i64 C,.int .i64 cu] 39)).alloc (.cells #[.slice none 0 0] 24)) w6:=(i4.out.alloc (by omega) _).drew.trans (c8.mono (by simp;omega));obtain⟨m0,m1,m2,m3,m4,m5,m6⟩:=zbC b6;have H6:Hid (Below (w.heap.size+1+1+1+1) ((((w.alloc (.cells #[.slice a n c] 24)).alloc (.cells #[.int .i64 P,.int .i64 pu] 39)).alloc (.cells #[.int .i64 C,.int .i64 cu] 39)).alloc (.cells #[.slice none 0 0] 24)) w6):=b6;clear c8 b6))
    go_wp2_with fail
    go_meet
    case rel=>exact⟨rfl,H6⟩
  | cons h t =>
   have e0:t=[]/\m=1:=by
    have h1:=HM.out;rw[List.length_cons] at h1;exact⟨List.length_eq_zero_iff.1 (by omega),by omega⟩
   obtain⟨e0,e1⟩:=e0;subst e0;subst e1;obtain⟨Q,qu⟩:=h;obtain⟨d9,e8,eh,_,_⟩:=HH.out 0 (by simp);subst eh
   have HC:Hid (∀ W,zam W (some ⟨d9,e8,none⟩) [(Q,qu)]->W.cell? ⟨d9,e8,none⟩=some (.int .i64 Q)/\W.cell? ⟨d9,e8+1,none⟩=some (.int .i64 qu)):=fun W hW=>by
    obtain⟨b,o,e,h1,h2⟩:=hW 0 (by simp);cases e;exact⟨by simpa using h1,by simpa using h2⟩
   have o0:Hid (∀ b,some (⟨w.heap.size+1+1+1+1,0,none⟩:Addr)=some b->∀ j u,([.int .i64 P,.int .i64 pu,.int .i64 C,.int .i64 cu]:List Value)[j]?=some u->((W4.alloc (.cells #[.int .i64 P,.int .i64 pu,.int .i64 C,.int .i64 cu] 39)).drew).cell? (b.add j)=some u):=fun b hb j u O=>by
    cases hb;rw[Addr.add_lit,<- n5]
    match j,O with
    | 0,O=>cases O;go_simp
    | 1,O=>cases O;go_simp
    | 2,O=>cases O;go_simp
    | 3,O=>cases O;go_simp
   have r6:Hid (∀ j u,([.int .i64 Q,.int .i64 qu]:List Value)[j]?=some u->((W4.alloc (.cells #[.int .i64 P,.int .i64 pu,.int .i64 C,.int .i64 cu] 39)).drew).cell? ((⟨d9,e8,none⟩:Addr).add j)=some u):=fun j u O=>by
    obtain⟨c0,c1⟩:=HC.out _ (HH.out.below (i2.out.alloc (by omega) (.cells #[.int .i64 P,.int .i64 pu,.int .i64 C,.int .i64 cu] 39)).drew);rw[Addr.add_lit]
    match j,O with
    | 0,O=>cases O;exact c0
    | 1,O=>cases O;exact c1
   go_region_held3 (fun U=>U.cell? ⟨w.heap.size,0,none⟩=some (.slice a n c)/\U.cell? ⟨w.heap.size+1,0,none⟩=some (.int .i64 P)/\U.cell? ⟨w.heap.size+1,1,none⟩=some (.int .i64 pu)/\U.cell? ⟨w.heap.size+1+1,0,none⟩=some (.int .i64 C)/\U.cell? ⟨w.heap.size+1+1,1,none⟩=some (.int .i64 cu)) (go_keep) (first
    |(refine step_append_grows rfl (.tmp 31) (.tmp 32) 25 rfl 39 i0 (.agg #[.int .i64 0,.int .i64 0]) 2 16 Tryz.underlying25 y8 A4 A5 A6 rfl (by decide) (some ⟨w.heap.size+1+1+1+1,0,none⟩) 2 2 [.int .i64 P,.int .i64 pu,.int .i64 C,.int .i64 cu] rfl (fun h=>by cases h) rfl o0.out ⟨d9,e8,none⟩ 1 hc [.int .i64 Q,.int .i64 qu] rfl rfl r6.out (by intro u hu;simp at hu;rcases hu with rfl|rfl <;> rfl) (by decide) (by decide) (by decide) ?_;intro v5 w5 a9 f9;have b6:Below (w.heap.size+1+1+1+1) ((((w.alloc (.cells #[.slice a n c] 24)).alloc (.cells #[.int .i64 P,.int .i64 pu] 39)).alloc (.cells #[.int .i64 C,.int .i64 cu] 39)).alloc (.cells #[.slice none 0 0] 24)) w5:=(i4.out.alloc (by omega) _).drew.grown f9 (by simp;omega) (fun k hk=>by cases hk);obtain⟨k0,k1,k2,k3,k4,k5,k6⟩:=zbC b6;obtain⟨y6,D2,p8,t7⟩:=ziK a9;subst p8;have x1:Hid (zam w5 y6 [(P,pu),(C,cu),(Q,qu)]):=t7;have H5:Hid (Below (w.heap.size+1+1+1+1) ((((w.alloc (.cells #[.slice a n c] 24)).alloc (.cells #[.int .i64 P,.int .i64 pu] 39)).alloc (.cells #[.int .i64 C,.int .i64 cu] 39)).alloc (.cells #[.slice none 0 0] 24)) w5):=b6;clear a9 f9 b6 t7)
    |(go_at_call 83;refine(DF.out _ _ _ (HS.out.below ((zaq _ _ _ _ _).trans (H5.out.mono (by omega)))) x1.out).mono ?_;rintro e w6 ⟨rfl,t4⟩;have p4:=H5.out.size;simp only[yk] at p4;have o2:Below (w.heap.size+1+1+1+1) ((((w.alloc (.cells #[.slice a n c] 24)).alloc (.cells #[.int .i64 P,.int .i64 pu] 39)).alloc (.cells #[.int .i64 C,.int .i64 cu] 39)).alloc (.cells #[.slice none 0 0] 24)) w6:=H5.out.trans (t4.mono p4);obtain⟨m0,m1,m2,m3,m4,m5,m6⟩:=zbC o2;have H6:Hid (Below (w.heap.size+1+1+1+1) ((((w.alloc (.cells #[.slice a n c] 24)).alloc (.cells #[.int .i64 P,.int .i64 pu] 39)).alloc (.cells #[.int .i64 C,.int .i64 cu] 39)).alloc (.cells #[.slice none 0 0] 24)) w6):=o2;clear t4 o2))
   go_wp2_with fail
   go_meet
   case rel=>exact⟨rfl,H6⟩
 case rest =>
 obtain⟨rfl,H6⟩:=hcut;clear l0 l1 l2 l3 l4 l5 l6 n5 i2 i4 DF;have y9:=HC.out;clear HC;rcases y9 with ⟨j3,rfl,rfl⟩ |⟨F,ch,rfl,rfl,j3,m9,hpa,hch,hX,hY⟩
 ·have hz:(R == 0)=false:=by simp[j3]
  have E9:decide (R=0)=false:=decide_eq_false j3;clear t1
  go_wp2_with fail
  refine yf (DB.out _ _) ?_;rintro e wb ⟨rfl,b7⟩;have f0:Hid (Below (w.heap.size+1+1+1+1) ((((w.alloc (.cells #[.slice a n c] 24)).alloc (.cells #[.int .i64 P,.int .i64 pu] 39)).alloc (.cells #[.int .i64 C,.int .i64 cu] 39)).alloc (.cells #[.slice none 0 0] 24)) wb):=H6.out.trans (b7.mono (by have:=H6.out.size;simp only[yk] at this;omega));obtain⟨⟨l0,l1,l2,l3⟩,⟨z0,z3⟩,e9,hB⟩:=zdM f0.out;have q3:w.heap.size+1+1+1<wb.heap.size:=by omega
  have b5:Hid _:=hB;clear b7 hB
  go_wp2_with fail
  refine yq (v:=.tuple #[.agg #[.slice none 0 0],.int .i64 R]) (by simp[results,Tryz.results44,go_sem,l3]) rfl ⟨none,0,rfl,?_,fun _ hi=>absurd hi (yr _)⟩
  first|exact b5.out.setCell (by simp;omega) _|exact(b5.out.setCell (by simp;omega) _).drew
 ·subst j3;have hX:Hid _:=hX;have hY:Hid _:=hY;clear hN;have hN:=m9;have dl:=fun(W:World) (hW:zae W a S)=>zgC a c S (F:Int) W hN hW;rw[zmj hpa] at dl;have DL:Hid _:=dl;have PB:Hid ((zbj S F).length<=25):=yx (zgj S F) (by omega);clear dl;have i6:Hid _:=znM (S:=S) (ch:=ch) hpa;clear m9 t1;rw[HN.out] at hN hpa hch DL;obtain⟨w6,rfl⟩:∃ W,W=wc:=⟨_,rfl⟩;obtain⟨⟨l0,l1,l2,l3⟩,⟨z0,z3⟩,e9,hB⟩:=zdM H6.out;have w9:Hid _:=hB;clear hB;have q0:w.heap.size<w6.heap.size:=by omega
  have q1:w.heap.size+1<w6.heap.size:=by omega
  have q2:w.heap.size+1+1<w6.heap.size:=by omega
  go_upto_region 7 with fail
  go_cut [12,13] (fun s12 s13 wx=>s12=.int .i64 (F:Int)/\s13=.int .i64 (ch:Int)/\Hid (Below (w.heap.size+1+1+1+1) ((((w.alloc (.cells #[.slice a n c] 24)).alloc (.cells #[.int .i64 (F:Int),.int .i64 pu] 39)).alloc (.cells #[.int .i64 (ch:Int),.int .i64 cu] 39)).alloc (.cells #[.slice none 0 0] 24)) wx))
  case first =>
   go_region
   all_goals (go_wp2_with fail;go_meet)
   all_goals first|exact⟨rfl,rfl,(H6.out.drew:Below _ _ _)⟩|exact⟨rfl,rfl,H6⟩
  case rest =>
  obtain⟨rfl,rfl,H7⟩:=hcut;obtain⟨w7,rfl⟩:∃ W,W=wc:=⟨_,rfl⟩;clear l0 l1 l2 l3 z0 z3 e9 w9 q0 q1 q2 H6;obtain⟨⟨l0,l1,l2,l3⟩,⟨z0,z3⟩,e9,hB⟩:=zdM H7.out;have i3:Hid _:=hB;clear hB;have q0:w.heap.size<w7.heap.size:=by omega
  have B5:(ch:Int)<(n:Int):=by omega
  obtain⟨nb,no,ea,_,_,_,_,_,_,c6,_⟩:=(HS.out.below i3.out) ch (by rw[HN.out];exact hch);subst ea;have z6:=ye _ _ c6;by_cases hfit:zef S ch F=false
  ·obtain⟨rfl,rfl⟩:=hX.out hfit;clear hX hY;generalize (nd S ch).h=hh at *;by_cases f6:hh = -1
   ·subst f6
    have i7:Hid (decide ((ch:Int) ∈ zbj S F)=true):=by
     have b9:=i6.out;rw[hfit] at b9
     cases h:decide ((ch:Int) ∈ zbj S F) with
     | true=>exact(rfl:true=true)
     | false=>rw[h] at b9;simp at b9
    go_wp2_with fail
    refine yf (DL.out _ (HS.out.below i3.out)) ?_;rintro e w8 ⟨v8,rfl,h3,b8⟩;have a7:w8.ownsRow w7.heap.size 3 1 v8 (zbj S F).length ((zbj S F).map (Value.int .i64)):=b8;obtain⟨h8,h9,p9,h5,_⟩:=zat a7;have H8:Hid (Below (w.heap.size+1+1+1+1) ((((w.alloc (.cells #[.slice (some ⟨nb,no,none⟩) n c] 24)).alloc (.cells #[.int .i64 (F:Int),.int .i64 pu] 39)).alloc (.cells #[.int .i64 (ch:Int),.int .i64 cu] 39)).alloc (.cells #[.slice none 0 0] 24)) w8):=H7.out.trans (h3.mono (by omega));have g0:Hid (Calls Tryz.prog 17 #[.slice h8 (zbj S F).length h9,.int .i64 (ch:Int)] w8 fun e w' => e=.returned (.bool (decide ((ch:Int) ∈ zbj S F)))/\w' = w8):=zec h8 h9 (zbj S F) (ch:Int) w8 (by have:=PB.out;omega) h5;rw[i7.out] at g0;subst p9;clear h3 b8 a7 h5 l0 l1 l2 l3 z0 z3 q0 c6;generalize (zbj S F).length=LP at *
    go_wp2_with fail
    refine yf g0.out ?_;rintro e B1 ⟨rfl,q4⟩;subst q4
    go_wp2_with fail
    refine yf (DB.out _ _) ?_;rintro e wb ⟨rfl,b7⟩;have f0:Hid (Below (w.heap.size+1+1+1+1) ((((w.alloc (.cells #[.slice (some ⟨nb,no,none⟩) n c] 24)).alloc (.cells #[.int .i64 (F:Int),.int .i64 pu] 39)).alloc (.cells #[.int .i64 (ch:Int),.int .i64 cu] 39)).alloc (.cells #[.slice none 0 0] 24)) wb):=H8.out.trans (b7.mono (by have:=H8.out.size;simp only[yk] at this;omega));obtain⟨⟨l0,l1,l2,l3⟩,⟨z0,z3⟩,e9,hB⟩:=zdM f0.out;have q3:w.heap.size+1+1+1<wb.heap.size:=by omega
    have b5:Hid _:=hB;clear b7 hB
    go_wp2_with fail
    refine yq (v:=.tuple #[.agg #[.slice none 0 0],.int .i64 6]) (by simp[results,Tryz.results44,go_sem,l3]) rfl ⟨none,0,rfl,?_,fun _ hi=>absurd hi (yr _)⟩
    first|exact b5.out.setCell (by simp;omega) _|exact(b5.out.setCell (by simp;omega) _).drew
   ·have D7:(hh == -1)=false:=beq_eq_false_iff_ne.2 f6;have D8:decide (hh = -1)=false:=decide_eq_false f6;clear i6
    go_wp2_with fail
    refine yf (DB.out _ _) ?_;rintro e wb ⟨rfl,b7⟩;have f0:Hid (Below (w.heap.size+1+1+1+1) ((((w.alloc (.cells #[.slice (some ⟨nb,no,none⟩) n c] 24)).alloc (.cells #[.int .i64 (F:Int),.int .i64 pu] 39)).alloc (.cells #[.int .i64 (ch:Int),.int .i64 cu] 39)).alloc (.cells #[.slice none 0 0] 24)) wb):=H7.out.trans (b7.mono (by have:=H7.out.size;simp only[yk] at this;omega));clear l0 l1 l2 l3 z0 z3;obtain⟨⟨l0,l1,l2,l3⟩,⟨z0,z3⟩,e9,hB⟩:=zdM f0.out;have q3:w.heap.size+1+1+1<wb.heap.size:=by omega
    have b5:Hid _:=hB;clear b7 hB
    go_wp2_with fail
    refine yq (v:=.tuple #[.agg #[.slice none 0 0],.int .i64 6]) (by simp[results,Tryz.results44,go_sem,l3]) rfl ⟨none,0,rfl,?_,fun _ hi=>absurd hi (yr _)⟩
    first|exact b5.out.setCell (by simp;omega) _|exact(b5.out.setCell (by simp;omega) _).drew
  ·have hfit:zef S ch F=true:=by simpa using hfit
   have b9:=i6.out;rw[hfit] at b9
   have f6:(nd S ch).h = -1/\decide ((ch:Int) ∈ zbj S F)=false:=by
    by_cases h:(nd S ch).h = -1
    ·refine⟨h,?_⟩
     cases h2:decide ((ch:Int) ∈ zbj S F) with
     | false=>rfl
     | true=>rw[h2] at b9;simp at b9
    ·rw[decide_eq_false h] at b9;simp at b9
   have x0:Hid _:=f6.1;have i7:Hid _:=f6.2;obtain⟨hQ,hA,hK⟩:=hY.out hfit;have r2:Hid _:=hQ;have HA:Hid _:=hA;have n7:Hid _:=hK;rw[HN.out] at r2;clear b9 hfit hQ hA hK f6 hY hX i6;rw[x0.out] at c6
   go_wp2_with fail
   refine yf (DL.out _ (HS.out.below i3.out)) ?_;rintro e w8 ⟨v8,rfl,h3,b8⟩;have a7:w8.ownsRow w7.heap.size 3 1 v8 (zbj S F).length ((zbj S F).map (Value.int .i64)):=b8;obtain⟨h8,h9,p9,h5,_⟩:=zat a7;have H8:Hid (Below (w.heap.size+1+1+1+1) ((((w.alloc (.cells #[.slice (some ⟨nb,no,none⟩) n c] 24)).alloc (.cells #[.int .i64 (F:Int),.int .i64 pu] 39)).alloc (.cells #[.int .i64 (ch:Int),.int .i64 cu] 39)).alloc (.cells #[.slice none 0 0] 24)) w8):=H7.out.trans (h3.mono (by omega));have g0:Hid (Calls Tryz.prog 17 #[.slice h8 (zbj S F).length h9,.int .i64 (ch:Int)] w8 fun e w' => e=.returned (.bool (decide ((ch:Int) ∈ zbj S F)))/\w' = w8):=zec h8 h9 (zbj S F) (ch:Int) w8 (by have:=PB.out;omega) h5;rw[i7.out] at g0;subst p9;clear h3 b8 a7 h5 l0 l1 l2 l3 z0 z3 q0 c6;generalize (zbj S F).length=LP at *
   go_wp2_with fail
   refine yf g0.out ?_;rintro e B1 ⟨rfl,q4⟩;subst q4;clear DL PB g0 i7 i3 H7 e9 z6
   go_wp2_with fail
   go_loopg [14,66] (m+1) (fun g s14 s66 wr=>∃ (i:Nat) (tv:Int),i<=m/\m-i<g/\s66=.int .i64 i/\s14=.int .i64 tv/\Hid (Below (w.heap.size+1+1+1+1) ((((w.alloc (.cells #[.slice (some ⟨nb,no,none⟩) n c] 24)).alloc (.cells #[.int .i64 (F:Int),.int .i64 pu] 39)).alloc (.cells #[.int .i64 (ch:Int),.int .i64 cu] 39)).alloc (.cells #[.slice none 0 0] 24)) wr)/\Hid ((i=0->tv = -1)/\(0<i->tv=zfp hs/\∀ h ∈ hs,(nd S h.1.toNat).p=F)))
   case atStart=>exact⟨0,-1,by omega,by omega,rfl,rfl,H8,(⟨fun _=>rfl,fun h=>absurd h (Nat.lt_irrefl _)⟩:((0:Nat)=0->(-1:Int) = -1)/\(0<(0:Nat)->(-1:Int)=zfp hs/\∀ h ∈ hs,(nd S h.1.toNat).p=F))⟩
   case round =>
    clear H8;obtain⟨i,tv,hi,hg,rfl,rfl,HB,A⟩:=hrel;obtain⟨⟨l0,l1,l2,l3⟩,⟨z0,z3⟩,e9,r8⟩:=zdM HB.out;have i5:Hid _:=r8;clear r8;have q0:w.heap.size<wr.heap.size:=by omega
    have q1:w.heap.size+1<wr.heap.size:=by omega
    have q2:w.heap.size+1+1<wr.heap.size:=by omega
    have q3:w.heap.size+1+1+1<wr.heap.size:=by omega
    by_cases k7:i<m
    ·skip
     have z4:m=1:=by omega
     have t8:i=0:=by omega
     subst t8;subst z4
     obtain⟨h,g6⟩:∃ h,hs=[h]:=by
      cases hs with
      | nil=>exact absurd HM.out (by simp)
      | cons x t =>
       have h1:=HM.out;rw[List.length_cons] at h1;have ht:t=[]:=List.length_eq_zero_iff.1 (by omega);exact⟨x,by rw[ht]⟩
     obtain⟨q,k9,z8⟩:=r2.out h (by rw[g6];simp);obtain⟨d9,e8,eh,h4,j6⟩:=(HH.out.below i5.out) 0 (by rw[g6];simp);rw[g6] at h4 j6;simp only[List.getD_cons_zero] at h4 j6;rw[k9] at h4;subst eh;have t6:wr.cell? ⟨d9,e8,none⟩=some (.int .i64 (q:Int)):=by simpa using h4
     have B3:wr.cell? ⟨d9,e8+1,none⟩=some (.int .i64 h.2):=by simpa using j6
     have D1:=ye _ _ t6;clear h4 j6;have E5:(q:Int)<(n:Int):=by omega
     obtain⟨F0,F6,y2,_,_,_,_,c4,_,_,_⟩:=(HS.out.below i5.out) q (by rw[HN.out];exact z8);cases y2;have B9:=ye _ _ c4;by_cases g5:(nd S q).p=(F:Int)
     ·skip
      rw[g5] at c4
      have NX:Hid (((0+1:Nat)=0->(q:Int) = -1)/\(0<(0+1:Nat)->(q:Int)=zfp hs/\∀ h ∈ hs,(nd S h.1.toNat).p=F)):=⟨fun h=>absurd h (by omega),fun _=>⟨by rw[g6];exact k9.symm,fun h' hh=>by
       rw[g6,List.mem_singleton] at hh;rw[hh,k9,yg];exact g5⟩⟩
      clear A g5
      go_wp2_with fail
      go_roundg 1
      case measure=>omega
      case rel=>exact⟨0+1,q,by omega,by omega,by go_num,rfl,HB.out.alloc (by omega) _,NX⟩
     ·skip
      obtain⟨rfl,rfl⟩:=HA.out ⟨h,by rw[g6];simp,by rw[k9,yg];exact g5⟩;clear n7 A;generalize (nd S q).p=pq at *;have z7:(pq ==(F:Int))=false:=beq_eq_false_iff_ne.2 g5;have E4:decide (pq=(F:Int))=false:=decide_eq_false g5
      go_wp2_with fail
      refine yf (DB.out _ _) ?_;rintro e wb ⟨rfl,b7⟩;have f0:Hid (Below (w.heap.size+1+1+1+1) ((((w.alloc (.cells #[.slice (some ⟨nb,no,none⟩) n c] 24)).alloc (.cells #[.int .i64 (F:Int),.int .i64 pu] 39)).alloc (.cells #[.int .i64 (ch:Int),.int .i64 cu] 39)).alloc (.cells #[.slice none 0 0] 24)) wb):=(HB.out.alloc (by omega) _).trans (b7.mono (by simp;omega));clear l0 l1 l2 l3 z0 z3 q3;obtain⟨⟨l0,l1,l2,l3⟩,⟨z0,z3⟩,e9,hB⟩:=zdM f0.out;have q3:w.heap.size+1+1+1<wb.heap.size:=by omega
      have b5:Hid _:=hB;clear b7 hB
      go_wp2_with fail
      refine yq (v:=.tuple #[.agg #[.slice none 0 0],.int .i64 6]) (by simp[results,Tryz.results44,go_sem,l3]) rfl ⟨none,0,rfl,?_,fun _ hi=>absurd hi (yr _)⟩
      first|exact b5.out.setCell (by simp;omega) _|exact(b5.out.setCell (by simp;omega) _).drew
    ·have o7:i=m:=by omega
     have p6:tv=zfp hs/\∀ h ∈ hs,(nd S h.1.toNat).p=F:=by
      cases hs with
      | nil =>
       have:m=0:=HM.out.symm;exact⟨A.out.1 (by omega),fun _ hh=>by cases hh⟩
      | cons x t =>
       have:=HM.out;rw[List.length_cons] at this;exact A.out.2 (by omega)
     subst o7;obtain⟨p6,v7⟩:=p6;subst p6;obtain⟨rfl,o4,w1,hK⟩:=n7.out v7;have r0:Hid _:=o4;have r3:Hid (T.length=n):=(w1.trans HN.out:T.length=n);have DO:Hid (∀ W,zae W (some ⟨nb,no,none⟩) S->Calls _ _ _ _ _):=fun W hW=>zeL (some ⟨nb,no,none⟩) c S W (by have:=HN.out;omega) (fun i hi=>by have:=o4 i hi;omega) hW;rw[HN.out] at DO;have n8:Hid _:=hK;clear A v7 n7 HA hK o4 w1
     go_wp2_with fail
     refine yf (DO.out _ (HS.out.below i5.out)) ?_;rintro e w2 ⟨v,KK,rfl,e6,n3⟩;obtain⟨g,cap,rfl,D4,D5,B4,D3,hO⟩:=zmx (b0:=w.heap.size) (by omega) q0 n3;have m0:=zac l0 e6;have m2:=zac l2 e6;have m3:=zac l3 e6;have y0:w2.frozen? ⟨w.heap.size,0,none⟩=false:=(e6.frozen (p:=⟨w.heap.size,0,none⟩) q0).trans (z0 0);have y3:w2.frozen? ⟨w.heap.size+1+1+1,0,none⟩=false:=(e6.frozen (p:=⟨w.heap.size+1+1+1,0,none⟩) q3).trans (z3 0);obtain⟨W3,d8⟩:∃ W3,w2.setCell ⟨w.heap.size,0,none⟩ (.slice (some ⟨g,0,none⟩) n cap)=W3:=⟨_,rfl⟩;have d7:Hid (zca wr.heap.size S n KK (.slice (some ⟨g,0,none⟩) n cap) W3):=by rw[<- d8];exact hO
     have g1:Hid (Below w.heap.size w W3):=by rw[<- d8];exact(i5.out.trans (e6.mono (by omega))).setCell (by simp) _
     have E6:W3.heap.size=w2.heap.size:=by rw[<- d8];simp
     have hs2:=e6.size;have s0:W3.cell? ⟨w.heap.size,0,none⟩=some (.slice (some ⟨g,0,none⟩) n cap):=by rw[<- d8];exact World.cell?_setCell_same _ _ _ m0
     have s3:W3.cell? ⟨w.heap.size+1+1+1,0,none⟩=some (.slice none 0 0):=by rw[<- d8];exact zak (by omega) m3
     have f3:W3.frozen? ⟨w.heap.size+1+1+1,0,none⟩=false:=by rw[<- d8];exact zbh y3
     clear hO n3 e6 l0 l1 l2 l3 z0 z3 m2 m3 y3 DO
     go_upto_region 19 with fail
     try rw[d8]
     clear d8 m0 y0;rcases n8.out with p5|p3
     ·clear n8 r0;obtain⟨hx,hT⟩:=p5;rw[hx]
      go_wp2_with fail
      refine yq (v:=.tuple #[.agg #[.slice (some ⟨g,0,none⟩) n cap],.int .i64 0]) (by simp[results,Tryz.results44,go_sem,s3]) rfl ⟨some ⟨g,0,none⟩,cap,by rw[r3.out],?_,?_⟩
      ·first|exact g1.out.setCell (by simp;omega) _|exact(g1.out.setCell (by simp;omega) _).drew
      ·rw[hT];refine(d7.out.other (fun b hb _=>?_)).ndsAt HN.out
       first
        | exact yo _ _ _ _ (by show b≠w.heap.size+1+1+1;omega)
        |(rw[heap_drew];exact yo _ _ _ _ (by show b≠w.heap.size+1+1+1;omega))
     ·clear n8;obtain⟨n2,v3,v0,k8,at', t2,n1,hT⟩:=p3;obtain⟨j0,j7,l7,l8,l9⟩:=info_parts info3;have x5:Hid (zfp hs≠ch):=n2;have x4:Hid (-1<=zfp hs):=v3;have x8:Hid _:=k8;have i8:Hid _:=t2;have q9:Hid _:=n1;have HT:Hid (T=zaQ (leaveG S ch) F ch at'):=hT;have MK:Hid _:=(zlj k8 (by rw[HN.out];exact hpa) (by rw[HN.out];exact hch) v0).2;have ES:Hid _:=zlP (at' := at') k8 (by rw[HN.out];exact hpa) (by rw[HN.out];exact hch) v0;clear n2 v3 k8 t2 n1 hT;have hx:zfp hs≠(ch:Int):=x5.out;have A1:-1<=zfp hs:=x4.out;obtain⟨nx,v4⟩:∃ nx,zfp hs=nx:=⟨_,rfl⟩;rw[v4] at hx A1 i8 |-;clear v4;have E7:(nx ==(ch:Int))=false:=beq_eq_false_iff_ne.2 hx;have E8:decide (nx=(ch:Int))=false:=decide_eq_false hx;have r4:W3.cell? ⟨g,ch*8+4,none⟩=some (.int .i64 (nd S ch).p):=d7.out.cellAt (i:=ch) (j:=4) hch (by omega);have y7:g<W3.heap.size:=by omega
      have fz:∀ o,W3.frozen? ⟨g,o,none⟩=false:=fun o=>d7.out.frozenAt o;have e1:¬ w.heap.size=g:=by omega
      have e3:¬ w.heap.size+1+1+1=g:=by omega
      have C7:¬ g=w.heap.size:=by omega
      have C8:¬ g=w.heap.size+1+1+1:=by omega
      go_upto_if 98 with fail
      go_cut [17] (fun s17 wx=>s17=s17/\∃ K1:Nat->Value,Hid (zca wr.heap.size (zgB S ch) n K1 (.slice (some ⟨g,0,none⟩) n cap) wx)/\wx.cell? ⟨w.heap.size,0,none⟩=some (.slice (some ⟨g,0,none⟩) n cap)/\wx.cell? ⟨w.heap.size+1+1+1,0,none⟩=some (.slice none 0 0)/\wx.frozen? ⟨w.heap.size+1+1+1,0,none⟩=false/\W3.heap.size<=wx.heap.size/\Hid (Below w.heap.size w wx))
      case first =>
       rcases x8.out with hp |⟨p0,h7,E1,v6⟩
       ·rw[hp] at r4 |-;have OS:Hid (zgB S ch=S):=(by unfold zgB;rw[yd hp]:zgB S ch=S)
        go_wp2_with fail
        go_meet
        case rel=>exact⟨trivial,KK,(by rw[OS.out];exact d7.out:zca wr.heap.size (zgB S ch) n KK (.slice (some ⟨g,0,none⟩) n cap) W3),s0,s3,f3,yi _,g1⟩
       ·rw[v6] at r4 |-;rw[HN.out] at h7;have z7:((p0:Int) == -1)=false:=beq_eq_false_iff_ne.2 (by omega);have C0:(p0:Int)<(n:Int):=by omega
        have OS:Hid (zgB S ch=S.set p0 ⟨(nd S p0).u,(nd S p0).n,(nd S p0).t,(nd S p0).m,(nd S p0).p,woF ch (nd S p0).ks,(nd S p0).h,(nd S p0).c⟩):=(by unfold zgB;rw[ya (by omega),v6,yg]:zgB S ch=_);have r5:W3.cell? ⟨g,p0*8+5,none⟩=some (KK p0):=d7.out.cellAt (i:=p0) (j:=5) h7 (by omega);obtain⟨ka,kc,h6,g4,_⟩:=zat (d7.out.2 p0 h7);rw[h6] at r5;have j8:=r0.out p0 (by rw[HN.out];exact h7);have n6:Hid (zaj W3 ka (nd S p0).ks):=g4;have DW:Hid (∀ W,zaj W ka (nd S p0).ks->Calls _ _ _ _ _):=fun W hW=>zfT ka kc (nd S p0).ks (ch:Int) W j8 hW;obtain⟨L,hL⟩:∃ L,(nd S p0).ks.length=L:=⟨_,rfl⟩;rw[hL] at r5 DW j8;clear g4 h6 hL
        go_wp2_with fail
        refine wp_region_noPanic ?_;refine wp_region_held_drew (S:=fun U=>U.cell? ⟨w.heap.size,0,none⟩=some (.slice (some ⟨g,0,none⟩) n cap)) (by kernel_rfl) (by(try dsimp only);go_keep) (fun hHeld=>?_);refine wpAnyH_take (i:=0) (v:=?_) rfl (by kernel_rfl) (by kernel_rfl) (by kernel_rfl) (fun _ _ _ h=>h) (Or.inl ⟨by rfl,?_⟩) (by assumption) ?_;rotate_left
        ·intro w M;(try dsimp only at M);first|(go_simp;done)|(go_simp;with_reducible rfl)
        simp[Act.put];refine wpAnyH_take (i:=1) (v:=?_) rfl (by kernel_rfl) (by kernel_rfl) (by kernel_rfl) (fun _ _ _ h=>h) (Or.inl ⟨by rfl,?_⟩) (by assumption) ?_;rotate_left
        ·intro w M;(try dsimp only at M);first|(go_simp;done)|(go_simp;with_reducible rfl)
        simp[Act.put];refine wpAnyH_take (i:=2) (v:=?_) rfl (by kernel_rfl) (by kernel_rfl) (by kernel_rfl) (fun _ _ _ h=>h) (Or.inl ⟨by rfl,?_⟩) (by assumption) ?_;rotate_left
        ·intro w M;(try dsimp only at M);first|(go_simp;done)|(go_simp;with_reducible rfl)
        simp[Act.put];refine wpAnyH_take (i:=3) (v:=?_) rfl (by kernel_rfl) (by kernel_rfl) (by kernel_rfl) (fun _ _ _ h=>h) (Or.inl ⟨by rfl,?_⟩) (by assumption) ?_;rotate_left
        ·intro w M;(try dsimp only at M);first|(go_simp;done)|(go_simp;with_reducible rfl)
        simp[Act.put];refine wpAnyH_take (i:=4) (v:=?_) rfl (by kernel_rfl) (by kernel_rfl) (by kernel_rfl) (fun _ _ _ h=>h) (Or.inl ⟨by rfl,?_⟩) (by assumption) ?_;rotate_left
        ·intro w M;(try dsimp only at M);first|(go_simp;done)|(go_simp;with_reducible rfl)
        simp[Act.put];refine wpAnyH_take (i:=5) (v:=?_) rfl (by kernel_rfl) (by kernel_rfl) (by kernel_rfl) (fun _ _ _ h=>h) (Or.inl ⟨by rfl,?_⟩) (by assumption) ?_;rotate_left
        ·intro w M;(try dsimp only at M);first|(go_simp;done)|(go_simp;with_reducible rfl)
        simp[Act.put];refine wpAnyH_take (i:=6) (v:=?_) rfl (by kernel_rfl) (by kernel_rfl) (by kernel_rfl) (fun _ _ _ h=>h) (Or.inl ⟨by rfl,?_⟩) (by assumption) ?_;rotate_left
        ·intro w M;(try dsimp only at M);first|(go_simp;done)|(go_simp;with_reducible rfl)
        simp[Act.put];refine wpAnyH_take (i:=7) (v:=?_) rfl (by kernel_rfl) (by kernel_rfl) (by kernel_rfl) (fun _ _ _ h=>h) (Or.inl ⟨by rfl,?_⟩) (by assumption) ?_;rotate_left
        ·intro w M;(try dsimp only at M);first|(go_simp;done)|(go_simp;with_reducible rfl)
        simp[Act.put];refine wpAnyH_take (i:=9) (v:=?_) rfl (by kernel_rfl) (by kernel_rfl) (by kernel_rfl) (fun _ _ _ h=>h) (Or.inl ⟨by rfl,?_⟩) (by assumption) ?_;rotate_left
        ·intro w M;(try dsimp only at M);first|(go_simp;done)|(go_simp;with_reducible rfl)
        simp[Act.put];refine wpAnyH_ready (rs:=[8]) (by kernel_rfl) (by simp) ?_;refine AllReadyH.cons rfl (fun K hK=>?_) AllReadyH.nil;go_simp;refine hK.out _ _ ?_ (fun hHeld=>?_)
        ·(try dsimp only)
         first|go_keep|assumption
        clear hK K
        try simp[Act.put]
        refine wpAnyH_ready (rs:=[10]) (by kernel_rfl) (by simp) ?_;refine AllReadyH.cons rfl (fun K hK=>?_) AllReadyH.nil;go_simp;refine yf (DW.out _ (n6.out.below (by first|exact(yj _ _).drew|exact yj _ _))) ?_;rintro e w5 ⟨v5,rfl,c8,a9⟩;have a6:Below W3.heap.size W3 w5:=(by first|exact(yj W3.heap.size W3).drew.trans c8|exact c8);have t0:=zac s0 a6;have t3:=zac s3 a6;have t5:=zac r5 a6;have j2:w5.frozen? ⟨w.heap.size+1+1+1,0,none⟩=false:=(a6.frozen (p:=⟨w.heap.size+1+1+1,0,none⟩) (by show w.heap.size+1+1+1 < _;omega)).trans f3;have C9:∀ o,w5.frozen? ⟨g,o,none⟩=false:=fun o=>(a6.frozen (p:=⟨g,o,none⟩) y7).trans (fz o);have p4:=a6.size;have x6:Hid (zca wr.heap.size S n KK (.slice (some ⟨g,0,none⟩) n cap) w5):=d7.out.other (fun b _ hb=>a6.block b hb);have x9:Hid (w5.ownsRow wr.heap.size 3 1 v5 (woF ch (nd S p0).ks).length ((woF ch (nd S p0).ks).map (Value.int .i64))):=zau a9 (by first|(simp;omega)|omega);have w4:Hid (Below w.heap.size w w5):=g1.out.trans (a6.mono g1.out.size);obtain⟨A9,B0,p8,_⟩:=zat a9;subst p8;clear c8 a6 a9
        go_wp2_with fail
        refine hK.out _ _ ?_ (fun hHeld=>?_)
        ·(try dsimp only)
         first|exact t0|go_keep
        clear hK K
        try simp[Act.put]
        refine wpAnyH_take (i:=11) (v:=?_) rfl (by kernel_rfl) (by kernel_rfl) (by kernel_rfl) (fun _ _ _ h=>h) (Or.inl ⟨by rfl,?_⟩) (by assumption) ?_;rotate_left
        ·intro w M;(try dsimp only at M);first|(go_simp;done)|(go_simp;with_reducible rfl)
        simp[Act.put];refine wpAnyH_take (i:=12) (v:=?_) rfl (by kernel_rfl) (by kernel_rfl) (by kernel_rfl) (fun _ _ _ h=>h) (Or.inl ⟨by rfl,?_⟩) (by assumption) ?_;rotate_left
        ·intro w M;(try dsimp only at M);first|(go_simp;done)|(go_simp;with_reducible rfl)
        simp[Act.put];refine wpAnyH_ready (rs:=[13]) (by kernel_rfl) (by simp) ?_;refine AllReadyH.cons rfl (fun K hK=>?_) AllReadyH.nil;go_simp;refine hK.out _ _ ?_ (fun hHeld=>?_)
        ·(try dsimp only)
         first|exact zak (by omega) t0|go_keep
        clear hK K
        try simp[Act.put]
        refine wpAnyH_done (by kernel_rfl) ?_ _;refine NoPanic.normal ?_
        go_wp2_with fail
        go_meet
        case rel =>
         refine⟨trivial,fun i=>if i=p0 then (.slice A9 (woF ch (nd S p0).ks).length B0) else KK i,?_,zak e1 t0,zak e3 t3,?_,?_,?_⟩
         ·show zca _ _ _ _ _ _;rw[OS.out];exact x6.out.putK (k:=p0) h7 HN.out (woF ch (nd S p0).ks) _ x9.out
         ·rw[World.frozen?_setCell];exact j2
         ·simp;omega
         ·exact w4.out.setCell (by simp;omega) _
      case rest =>
      obtain⟨_,K1,i9,t0,t3,j2,C3,q6⟩:=hcut;obtain⟨i1,rfl⟩:∃ W,W=wc:=⟨_,rfl⟩;clear s0 s3 f3 r4 fz d7 g1;have r4:i1.cell? ⟨g,ch*8+4,none⟩=some (.int .i64 (nd (zgB S ch) ch).p):=i9.out.cellAt (i:=ch) (j:=4) hch (by omega);have fz:∀ o,i1.frozen? ⟨g,o,none⟩=false:=fun o=>i9.out.frozenAt o;have B8:g<i1.heap.size:=by omega
      obtain⟨D,b4⟩:∃ W,i1.setCell ⟨g,ch*8+4,none⟩ (.int .i64 (F:Int))=W:=⟨_,rfl⟩
      have n9:Hid (zca wr.heap.size (zcv S F ch) n K1 (.slice (some ⟨g,0,none⟩) n cap) D):=by
       rw[<- b4]
       exact i9.out.put1 (k:=ch) (j:=4) (u:=.int .i64 (F:Int)) hch (by rw[zcU];exact HN.out) (by omega) _ (fun v j' z1=>by
        match j', z1 with
        | 0,_|1,_|2,_|3,_|4,_|5,_|6,_|7,_=>rfl) rfl
      have m7:Hid (Below w.heap.size w D):=by rw[<- b4];exact q6.out.setCell (by simp;omega) _
      have v9:D.heap.size=i1.heap.size:=by rw[<- b4];simp
      have s0:D.cell? ⟨w.heap.size,0,none⟩=some (.slice (some ⟨g,0,none⟩) n cap):=by rw[<- b4];exact zak e1 t0
      have s3:D.cell? ⟨w.heap.size+1+1+1,0,none⟩=some (.slice none 0 0):=by rw[<- b4];exact zak e3 t3
      have f3:D.frozen? ⟨w.heap.size+1+1+1,0,none⟩=false:=by rw[<- b4];exact zbh j2
      have z9:W3.heap.size<=D.heap.size:=by omega
      clear v9
      go_upto_region 25 with fail
      try rw[b4]
      clear b4 r4 fz t0 t3 j2 i9 q6;have j9:(nd (zcv S F ch) F).ks=(nd (leaveG S ch) F).ks:=MK.out;have f7:=n9.out.2 F hpa;rw[j9] at f7;have r5:D.cell? ⟨g,F*8+5,none⟩=some (K1 F):=n9.out.cellAt (i:=F) (j:=5) hpa (by omega);obtain⟨ka,kc,h6,g4,_⟩:=zat f7;rw[h6] at r5;obtain⟨ks,t9⟩:∃ ks,(nd (leaveG S ch) F).ks=ks:=⟨_,rfl⟩;have q8:=ES;rw[t9] at r5 g4 i8 j9 q9 q8;obtain⟨L,hL⟩:∃ L,ks.length=L:=⟨_,rfl⟩;have HL:Hid (ks.length=L):=hL;have j8:=q9.out;rw[hL] at r5 j8;have n6:Hid (zaj D ka ks):=g4;have C5:Hid _:=j9;clear g4 h6 hL t9 f7 j9;have C1:(F:Int)<(n:Int):=by omega
      go_wp2_with fail
      obtain⟨V0,o5⟩:∃ V,V=wr:=⟨_,rfl⟩
      go_loopg [18,125] L (fun gg s18 s125 wr=>∃ (i:Nat) (l:List Int),i<=L/\L-i<=gg/\s125=.int .i64 i/\l.length<=2*i/\Hid (Below D.heap.size D wr)/\D.heap.size<=wr.heap.size/\Hid (wr.ownsRow D.heap.size 3 1 s18 l.length (l.map (Value.int .i64)))/\Hid (l=zgY nx ch (ks.take i)))
      case atStart=>exact⟨0,[],by omega,by omega,rfl,by simp,yj _ _,yi _,World.ownsRow_nil _ _ _ _,(by simp[zgY]:([]:List Int)=zgY nx ch (ks.take 0))⟩
      case round =>
       obtain⟨i,l,hi,D6,rfl,z2,c7,w0,a5,HE⟩:=hrel;obtain⟨qa,qc,hv,_⟩:=zat a5.out;subst hv;obtain⟨ln,o9⟩:∃ y,l.length=y:=⟨_,rfl⟩;have g2:Hid (l.length=ln):=o9;rw[o9] at a5 z2 |-;clear o9;have OB:Hid (∀ k,(Value.slice qa ln qc).ownBlock=some k->D.heap.size<=k):=fun k hk=>(a5.out.lt k hk).1;by_cases k7:i<L
       ·obtain⟨pb,po,ep,E3⟩:=(n6.out.below c7.out) i (by rw[HL.out];exact k7);subst ep;have D9:(i:Int)<(L:Int):=by omega
        have j1:Hid (zgY nx ch (ks.take (i+1))=l++(if ks.getD i 0=nx then [(ch:Int),ks.getD i 0] else [ks.getD i 0])):=by
         show zgY nx ch (ks.take (i+1))=_;rw[List.take_succ_eq_append_getElem (by rw[HL.out];exact k7),<- zaf ks 0 (by rw[HL.out];exact k7),zoj,<- HE.out]
        clear HE;generalize ks.getD i 0=y at *;by_cases hy:y=nx
        ·have A2:(y == nx)=true:=by simp[hy]
         have A3:decide (y=nx)=true:=decide_eq_true hy;have E2:Hid ((l++[(ch:Int)])++[y]=zgY nx ch (ks.take (i+1))):=(by rw[j1.out,yd hy];simp:(l++[(ch:Int)])++[y]=zgY nx ch (ks.take (i+1)));clear j1 hy
         go_wp2_with (at_builtin;refine wpList_append_own _ rfl _ _ 29 rfl D.heap.size 3 j0 (.int .i64 0) 1 8 Tryz.underlying29 j7 l7 l8 l9 rfl (by decide) _ _ _ rfl (a5.out.alloc _) ⟨wr.heap.size,0,none⟩ 1 1 [.int .i64 (ch:Int)] rfl rfl ?c1 ?c2 ?c3 ?c4 ?c5 ?_)
         case c2=>first|rfl|(intro u hu;simp at hu;subst hu;rfl)|simp
         case c3=>unfold maxLen;omega
         case c4=>omega
         case c5=>first|omega|(simp;omega)
         first|(case c1=>first|(go_simp;done)|(intro j u O;match j,O with|0,O=>(cases O;go_simp)|(j+1),O=>simp at O))|skip
         intro v1 a8 J I _;have a4:Below D.heap.size wr a8:=((yj _ wr).alloc (by omega) _).grown I (by simp;omega) (fun k hk=>OB.out k hk)
         have Z:Hid (a8.ownsRow D.heap.size 3 1 v1 (ln+1) ((l++[(ch:Int)]).map (Value.int .i64))):=by
          have h2:=J;rw[List.map_append];exact h2
         have n4:=a4.size;have d6:Hid (Below D.heap.size D a8):=c7.out.trans a4;have r7:Hid (∀ k,v1.ownBlock=some k->D.heap.size<=k):=fun k hk=>(Z.out.lt k hk).1
         obtain⟨va,vc,p7⟩:∃ va vc,v1=.slice va (ln+1) vc:=by
          rcases Z.out.2 with ⟨_,h⟩ |⟨g', B2,C6,h,_⟩
          ·omega
          ·exact⟨_,_,h⟩
         subst p7;clear J I a4 a5 OB
         go_wp2_with (at_builtin;refine wpList_append_own _ rfl _ _ 29 rfl D.heap.size 3 j0 (.int .i64 0) 1 8 Tryz.underlying29 j7 l7 l8 l9 rfl (by decide) _ _ _ rfl (Z.out.alloc _) ⟨a8.heap.size,0,none⟩ 1 1 [.int .i64 y] rfl rfl ?d1 ?d2 ?d3 ?d4 ?d5 ?_)
         case d2=>first|rfl|(intro u hu;simp at hu;subst hu;rfl)|simp
         case d3=>unfold maxLen;omega
         case d4=>omega
         case d5=>first|omega|(simp;omega)
         first|(case d1=>first|(go_simp;done)|(intro j u O;match j,O with|0,O=>(cases O;go_simp)|(j+1),O=>simp at O))|skip
         intro v2 q5 J I _;have g9:Below D.heap.size a8 q5:=((yj _ a8).alloc (by omega) _).grown I (by simp;omega) (fun k hk=>r7.out k hk)
         have r1:Hid (q5.ownsRow D.heap.size 3 1 v2 ((l++[(ch:Int)])++[y]).length (((l++[(ch:Int)])++[y]).map (Value.int .i64))):=by
          have h2:=J;rw[show ((l++[(ch:Int)])++[y]).length=ln+1+1 by simp[g2.out],show ((l++[(ch:Int)])++[y]).map (Value.int .i64)=l.map (Value.int .i64)++[.int .i64 (ch:Int),.int .i64 y] by simp];exact h2
         have C2:=g9.size;have q7:Hid (Below D.heap.size D q5):=d6.out.trans g9;clear J I g9 Z r7
         go_wp2_with fail
         go_roundg (L-(i+1))
         case measure=>omega
         case rel=>exact⟨i+1,(l++[(ch:Int)])++[y],by omega,by omega,by go_num,by simp[g2.out];omega,q7,by omega,r1,E2⟩
        ·have A2:(y == nx)=false:=beq_eq_false_iff_ne.2 hy;have A3:decide (y=nx)=false:=decide_eq_false hy;have E2:Hid (l++[y]=zgY nx ch (ks.take (i+1))):=(by rw[j1.out,ya hy]:l++[y]=zgY nx ch (ks.take (i+1)));clear j1
         go_wp2_with (at_builtin;refine wpList_append_own _ rfl _ _ 29 rfl D.heap.size 3 j0 (.int .i64 0) 1 8 Tryz.underlying29 j7 l7 l8 l9 rfl (by decide) _ _ _ rfl (a5.out.alloc _) ⟨wr.heap.size,0,none⟩ 1 1 [.int .i64 y] rfl rfl ?e1 ?e2 ?e3 ?e4 ?e5 ?_)
         case e2=>first|rfl|(intro u hu;simp at hu;subst hu;rfl)|simp
         case e3=>unfold maxLen;omega
         case e4=>omega
         case e5=>first|omega|(simp;omega)
         first|(case e1=>first|(go_simp;done)|(intro j u O;match j,O with|0,O=>(cases O;go_simp)|(j+1),O=>simp at O))|skip
         intro v1 a8 J I _;have a4:Below D.heap.size wr a8:=((yj _ wr).alloc (by omega) _).grown I (by simp;omega) (fun k hk=>OB.out k hk)
         have Z:Hid (a8.ownsRow D.heap.size 3 1 v1 (l++[y]).length ((l++[y]).map (Value.int .i64))):=by
          have h2:=J;rw[show (l++[y]).length=ln+1 by simp[g2.out],List.map_append];exact h2
         have n4:=a4.size;have d6:Hid (Below D.heap.size D a8):=c7.out.trans a4;clear J I a4 a5 OB
         go_wp2_with fail
         go_roundg (L-(i+1))
         case measure=>omega
         case rel=>exact⟨i+1,l++[y],by omega,by omega,by go_num,by simp[g2.out];omega,d6,by omega,Z,E2⟩
       ·have o7:i=L:=by omega
        have r9:l=zgY nx ch ks:=by
         have:=HE.out;rw[List.take_of_length_le (by rw[HL.out];omega)] at this;exact this
        have KE:Hid (l++(if nx = -1 then [(ch:Int)] else [])=ins ks at' ch):=(by rw[r9];exact i8.out:l++(if nx = -1 then [(ch:Int)] else [])=ins ks at' ch);subst o7;clear HE r9 i8;have u0:=zac s0 c7.out;have u3:=zac s3 c7.out;have B6:g<D.heap.size:=by omega
        have g3:wr.frozen? ⟨w.heap.size+1+1+1,0,none⟩=false:=(c7.out.frozen (p:=⟨w.heap.size+1+1+1,0,none⟩) (by show w.heap.size+1+1+1 < _;omega)).trans f3
        go_upto_if 142 with fail
        go_cut [18] (fun s18 wx=>∃ (va:Option Addr) (vc:Nat),s18=.slice va (ins ks at' ch).length vc/\Hid (wx.ownsRow D.heap.size 3 1 (.slice va (ins ks at' ch).length vc) (ins ks at' ch).length ((ins ks at' ch).map (Value.int .i64)))/\Hid (Below D.heap.size D wx)/\D.heap.size<=wx.heap.size)
        case first =>
         by_cases e7:nx = -1
         ·have ke:=KE.out;rw[yd e7] at ke;have y1:Hid _:=ke;have A7:(nx == -1)=true:=by simp[e7]
          have A8:decide (nx = -1)=true:=decide_eq_true e7;clear ke e7
          go_wp2_with (at_builtin;refine wpList_append_own _ rfl _ _ 29 rfl D.heap.size 3 j0 (.int .i64 0) 1 8 Tryz.underlying29 j7 l7 l8 l9 rfl (by decide) _ _ _ rfl (a5.out.alloc _) ⟨wr.heap.size,0,none⟩ 1 1 [.int .i64 (ch:Int)] rfl rfl ?f1 ?f2 ?f3 ?f4 ?f5 ?_)
          case f2=>first|rfl|(intro u hu;simp at hu;subst hu;rfl)|simp
          case f3=>unfold maxLen;omega
          case f4=>omega
          case f5=>first|omega|(simp;omega)
          first|(case f1=>first|(go_simp;done)|(intro j u O;match j,O with|0,O=>(cases O;go_simp)|(j+1),O=>simp at O))|skip
          intro v1 a8 J I _;have a4:Below D.heap.size wr a8:=((yj _ wr).alloc (by omega) _).grown I (by simp;omega) (fun k hk=>OB.out k hk)
          have Z:Hid (a8.ownsRow D.heap.size 3 1 v1 (ins ks at' ch).length ((ins ks at' ch).map (Value.int .i64))):=by
           have h2:=J;rw[<- y1.out,show (l++[(ch:Int)]).length=ln+1 by simp[g2.out],List.map_append];exact h2
          have n4:=a4.size;have d6:Hid (Below D.heap.size D a8):=c7.out.trans a4;obtain⟨va,vc,p7,_⟩:=zat Z.out;subst p7;clear J I a4
          go_wp2_with fail
          go_meet
          case rel=>exact⟨va,vc,rfl,Z,d6,by omega⟩
         ·have ke:=KE.out;rw[ya e7,List.append_nil] at ke;have A7:(nx == -1)=false:=beq_eq_false_iff_ne.2 e7;have A8:decide (nx = -1)=false:=decide_eq_false e7;have o8:(ins ks at' ch).length=ln:=by rw[<- ke];exact g2.out
          have x2:Hid _:=o8
          have Z:Hid (wr.ownsRow D.heap.size 3 1 (.slice qa (ins ks at' ch).length qc) (ins ks at' ch).length ((ins ks at' ch).map (Value.int .i64))):=by
           show World.ownsRow _ _ _ _ _ _ _;rw[o8,<- ke];exact a5.out
          clear ke o8 e7
          go_wp2_with fail
          go_meet
          case rel=>exact⟨qa,qc,by rw[x2.out],Z,c7,w0⟩
        case rest =>
        obtain⟨va,vc,rfl,x7,g7,C4⟩:=hcut;obtain⟨c9,rfl⟩:∃ W,W=wc:=⟨_,rfl⟩;clear u0 u3 g3 a5 c7 KE OB;have f8:Hid (zca V0.heap.size (zcv S F ch) n K1 (.slice (some ⟨g,0,none⟩) n cap) c9):=(by rw[o5];exact n9.out.other (fun b _ hb=>g7.out.block b hb):zca V0.heap.size (zcv S F ch) n K1 (.slice (some ⟨g,0,none⟩) n cap) c9);have u0:=zac s0 g7.out;have u3:=zac s3 g7.out;have g3:c9.frozen? ⟨w.heap.size+1+1+1,0,none⟩=false:=(g7.out.frozen (p:=⟨w.heap.size+1+1+1,0,none⟩) (by show w.heap.size+1+1+1 < _;omega)).trans f3;have u5:c9.cell? ⟨g,F*8+5,none⟩=some (K1 F):=f8.out.cellAt (i:=F) (j:=5) hpa (by omega);have fz:∀ o,c9.frozen? ⟨g,o,none⟩=false:=fun o=>f8.out.frozenAt o;have B7:g<c9.heap.size:=by omega
        have m8:Hid (Below w.heap.size w c9):=m7.out.trans (g7.out.mono m7.out.size);have y5:V0.heap.size<=D.heap.size:=by rw[o5];omega
        have D0:w.heap.size+1+1+1<V0.heap.size:=by rw[o5];omega
        have PF:Hid (zca V0.heap.size (zaQ (leaveG S ch) F ch at') n (fun i=>if i=F then (.slice va (ins ks at' ch).length vc) else K1 i) (.slice (some ⟨g,0,none⟩) n cap) (c9.setCell ⟨g,F*8+5,none⟩ (.slice va (ins ks at' ch).length vc))):=by
         have p1:=f8.out.putK (k:=F) hpa (by rw[zda];exact HN.out) (ins ks at' ch) (.slice va (ins ks at' ch).length vc) (zau x7.out y5);rw[q8.out] at p1;exact p1
        clear f8
        go_wp2_with fail
        have x3:(c9.setCell ⟨g,F*8+5,none⟩ (.slice va (ins ks at' ch).length vc)).cell? ⟨w.heap.size+1+1+1,0,none⟩=some (.slice none 0 0):=zak e3 u3;refine yq (v:=.tuple #[.agg #[.slice (some ⟨g,0,none⟩) n cap],.int .i64 0]) (by simp[results,Tryz.results44,go_sem,x3]) rfl ⟨some ⟨g,0,none⟩,cap,by rw[r3.out],?_,?_⟩
        ·first|exact(m8.out.setCell (by simp;omega) _).setCell (by simp;omega) _|exact((m8.out.setCell (by simp;omega) _).setCell (by simp;omega) _).drew
        ·rw[HT.out];refine(PF.out.other (fun b hb _=>?_)).ndsAt (by rw[zaE,zaF];exact HN.out)
         first
          | exact yo _ _ _ _ (by show b≠w.heap.size+1+1+1;omega)
          |(rw[heap_drew];exact yo _ _ _ _ (by show b≠w.heap.size+1+1+1;omega))
end Go.Proofs.YtgjfmepbphfjoaaGreat
