/-
  x
-/
import Derived.Test.YtgjfmepbphfjoaaGreatQ31
namespace Go.Proofs.YtgjfmepbphfjoaaGreat
set_option maxRecDepth 100000
set_option maxHeartbeats 4000000
set_option linter.unusedVariables false
open Go.RowKit
theorem zjm(a:Option Addr)(c:Nat)(S:List Nd)(k:Nat)(u:Int)(w:World)(wf:WF S)(T:zeu a c S)(V:zae w a S)(hk:k<S.length)(U:zar S [((k:Int),u)]=0) :
  Calls Tryz.prog 86 #[.agg #[.slice a S.length c],.agg #[.int .i64 k,.int .i64 u]] w fun e w' => ∃ I cap,e=.returned (.tuple #[.slice I (zaw S S.length k).length cap,.int .i64 0])/\Below w.heap.size w w' /\ zaj w' I (zaw S S.length k)/\(zaw S S.length k).length<=cap/\cap<=9223372036854775807:=by
 refine(zoR a c S k u w wf T V hk U).mono (fun e w' ⟨v,e1,Z,D⟩=>?_);have F:=zhs S k;rcases D.2 with ⟨_,h⟩ |⟨g,cap,J,h,_,_,M,O,_⟩
 ·omega
 ·obtain⟨pa,pc,A,hi,_⟩:=zat D;rw[h] at A;cases A;subst h;exact⟨_,cap,e1,Z,hi,M,by unfold maxLen at O;omega⟩
theorem zsy(te:Tst):zqL te=((decide (te.t = -1000001) || decide (0<=te.t/\te.t<=99)) && decide (-1000001<=te.m/\te.m<=1000000)):=by
 unfold zqL
 congr 1
 rw[Bool.eq_iff_iff];simp;omega
theorem zjn(qa:Option Addr)(qc:Nat)(q:List Tst)(w:World)(hq:q.length<=9223372036854775807)(hQ:zaP w qa q) :
  Calls Tryz.prog 87 #[.slice qa q.length qc] w fun e w' => e=.returned (.int .i64 (zcA q))/\Below w.heap.size w w' := by
 have HQ:Hid (zaP w qa q):=hQ;have d1:=zbR (q.length:Int) 1 6;have DR:Hid (∀ k,k<q.length->zcm k (q.drop k)=if zqL (tst q k) then (if decide (k=0) && (tst q k).near then 3 else zcm (k+1) (q.drop (k+1))) else 2):=fun k hk=>by rw[zkW hk];rfl
 have DE:Hid (zcm q.length (q.drop q.length)=0):=by show _=_;rw[List.drop_length];rfl
 unfold zcA;clear hQ;have H0:Hid (zcm 0 q=zcm 0 (q.drop 0)):=rfl;generalize zcm 0 q=E at *;generalize hl:q.length=L at *;have HL:Hid _:=hl;clear hl
 cases hb:decide (1<=(L:Int)/\(L:Int)<=6) with
 | false =>
  rw[hb] at d1;have D1:Hid _:=d1;simp only[Bool.false_eq_true,if_false];clear hb d1
  go_enter Tryz.func87,Tryz.ntmps87
  go_wp2_with fail
  refine yf (D1.out _) ?_;rintro e w' ⟨rfl,J⟩;have a4:=J.symm;clear J;subst a4
  go_wp2_with fail
  go_ret;exact⟨rfl,yj _ _⟩
 | true =>
  rw[hb] at d1;have D1:Hid _:=d1;have b6:1<=(L:Int)/\(L:Int)<=6:=of_decide_eq_true hb;simp only[if_true];clear hb d1
  go_enter Tryz.func87,Tryz.ntmps87
  go_wp2_with fail
  refine yf (D1.out _) ?_;rintro e w' ⟨rfl,J⟩;have a4:=J.symm;clear J;subst a4
  go_wp2_with fail
  go_loopg [11] L (fun g1 s11 wr=>∃ k:Nat,k<=L/\L-k<=g1/\s11=.int .i64 k/\Hid (Below w.heap.size w wr)/\Hid (E=zcm k (q.drop k)))
  case atStart=>exact⟨0,by omega,by omega,rfl,yj _ _,H0⟩
  case round =>
   obtain⟨k,hk,b7,rfl,HB,O⟩:=hrel;by_cases a8:k<L
   ·have b5:(k:Int)<(L:Int):=by omega
    obtain⟨qb,qo,eq,q0,q1,q2⟩:=(HQ.out.below HB.out) k (by rw[HL.out];exact a8);subst eq;have DK:=DR.out k (by omega);have TK:=zsy (tst q k);generalize tst q k=te at *;generalize a9:zqL te=ok at *;obtain⟨Z,tm,tn⟩:=te;dsimp only at q0 q1 q2 DK TK;have A:Hid _:=DK;have I:Hid _:=TK;have D2:Hid _:=fun W=>zbR Z 0 99 W;have D3:Hid _:=fun W=>zbR tm (-1000001) 1000000 W;clear DK TK a9;obtain⟨b1,a5⟩:∃ b,decide (0<=Z/\Z<=99)=b:=⟨_,rfl⟩;obtain⟨b2,a6⟩:∃ b,decide (-1000001<=tm/\tm<=1000000)=b:=⟨_,rfl⟩;rw[a5] at I D2;rw[a6] at I D3;clear a5 a6
    go_upto_region 6 with fail
    obtain⟨W5,F⟩:∃ W5,wr.alloc (.cells #[.int .i64 Z,.int .i64 tm,.bool tn] 86)=W5:=⟨_,rfl⟩;have e0:W5.cell? ⟨wr.heap.size,0,none⟩=some (.int .i64 Z):=by rw[<- F];exact zad _ _ _ 0 rfl
    have e1:W5.cell? ⟨wr.heap.size,1,none⟩=some (.int .i64 tm):=by rw[<- F];exact zad _ _ _ 1 rfl
    have e2:W5.cell? ⟨wr.heap.size,2,none⟩=some (.bool tn):=by rw[<- F];exact zad _ _ _ 2 rfl
    have V:Hid (Below w.heap.size w W5):=by rw[<- F];exact HB.out.alloc HB.out.size _
    rw[F];clear F q0 q1 q2
    go_cut [30] (fun s30 wx=>s30=.bool (!ok)/\wx=W5)
    case first =>
     by_cases h1:Z = -1000001
     ·have T:=I.out;rw[decide_eq_true h1,Bool.true_or,Bool.true_and] at T;subst h1;clear D2
      cases b2 with
      | true =>
       subst T
       go_wp2_with fail
       refine yf (D3.out _) ?_;rintro e w7 ⟨rfl,D⟩;subst D
       go_wp2_with fail
       go_meet
       case rel=>exact⟨rfl,rfl⟩
      | false =>
       subst T
       go_wp2_with fail
       refine yf (D3.out _) ?_;rintro e w7 ⟨rfl,D⟩;subst D
       go_wp2_with fail
       go_meet
       case rel=>exact⟨rfl,rfl⟩
     ·have T:=I.out;rw[decide_eq_false h1,Bool.false_or] at T;have p1:(Z == -1000001)=false:=beq_eq_false_iff_ne.2 h1;have p2:(Z != -1000001)=true:=by simp[h1]
      have p3:decide (Z = -1000001)=false:=decide_eq_false h1
      cases b1 with
      | false =>
       rw[Bool.false_and] at T;subst T
       go_wp2_with fail
       refine yf (D2.out _) ?_;rintro e w6 ⟨rfl,M⟩;subst M
       go_wp2_with fail
       go_meet
       case rel=>exact⟨rfl,rfl⟩
      | true =>
       rw[Bool.true_and] at T
       cases b2 with
       | true =>
        subst T
        go_wp2_with fail
        refine yf (D2.out _) ?_;rintro e w6 ⟨rfl,M⟩;subst M
        go_wp2_with fail
        refine yf (D3.out _) ?_;rintro e w7 ⟨rfl,D⟩;subst D
        go_wp2_with fail
        go_meet
        case rel=>exact⟨rfl,rfl⟩
       | false =>
        subst T
        go_wp2_with fail
        refine yf (D2.out _) ?_;rintro e w6 ⟨rfl,M⟩;subst M
        go_wp2_with fail
        refine yf (D3.out _) ?_;rintro e w7 ⟨rfl,D⟩;subst D
        go_wp2_with fail
        go_meet
        case rel=>exact⟨rfl,rfl⟩
    case rest =>
    obtain⟨rfl,b4⟩:=hcut;subst b4;clear I D2 D3
    cases ok with
    | false =>
     have U:Hid (E=2):=by show _=_;rw[O.out,A.out];rfl
     clear O A
     go_wp2_with fail
     go_ret;exact⟨by rw[U.out];rfl,V.out⟩
    | true =>
     cases tn with
     | false =>
      have U:Hid (E=zcm (k+1) (q.drop (k+1))):=by show _=_;rw[O.out,A.out];simp
      clear O A
      go_wp2_with fail
      go_roundg (L-(k+1))
      case measure=>omega
      case rel=>exact⟨k+1,by omega,by omega,by go_num,V,U⟩
     | true =>
      cases k with
      | zero =>
       have U:Hid (E=3):=by show _=_;rw[O.out,A.out];rfl
       clear O A
       go_wp2_with fail
       go_ret;exact⟨by rw[U.out];rfl,V.out⟩
      | succ kk =>
       have U:Hid (E=zcm (kk+1+1) (q.drop (kk+1+1))):=by show _=_;rw[O.out,A.out];simp
       have b8:(((kk+1:Nat):Int) == 0)=false:=beq_eq_false_iff_ne.2 (by omega);have b9:(((kk:Int)+1) == 0)=false:=beq_eq_false_iff_ne.2 (by omega);clear O A
       go_wp2_with fail
       go_roundg (L-(kk+1+1))
       case measure=>omega
       case rel=>exact⟨kk+1+1,by omega,by omega,by go_num,V,U⟩
   ·have a7:k=L:=by omega
    subst a7
    have U:Hid (E=0):=by
     show _=_;rw[O.out];exact DE.out
    clear O
    go_wp2_with fail
    go_ret;exact⟨by rw[U.out];rfl,HB.out⟩
theorem zoO(a:Option Addr)(c:Nat)(S:List Nd)(p u E:Int)(w:World)(hN:S.length<=9223372036854775807)(J:zeu a c S)(O:zae w a S)(M:zar S [(p,u)]=E)(A:E≠0) :
  Calls Tryz.prog 43 #[.agg #[.slice a S.length c],.agg #[.int .i64 p,.int .i64 u]] w fun e w' => e=.returned (.tuple #[.slice none 0 0,.int .i64 E])/\Below w.heap.size w w' := by
 have F:=fun(W:World) (T:Option Addr) (hW:zae W a S) (Z:zam W T [(p,u)])=>zbd a c S T 1 [(p,u)] W hN J hW (by simp) Z;rw[M] at F;have U:Hid _:=F;have V:Hid (zae w a S):=O;have hz:(E == 0)=false:=by simp[A]
 have a5:decide (E=0)=false:=decide_eq_false A;clear O J F M;generalize S.length=n at *
 go_enter Tryz.func43,Tryz.ntmps43
 go_wp2_with fail
 refine yf (U.out _ _ (V.out.below (zal _ _ _ _)) (zaV _ _ _ _ (by go_simp) (by go_simp))) ?_;rintro e w1 ⟨rfl,D⟩;simp only[yk] at D;obtain⟨l0,l1,a4,I⟩:=zgi D
 go_wp2_with fail
 refine yq (v:=.tuple #[.slice none 0 0,.int .i64 E]) (by simp[results,Tryz.results43,go_sem]) rfl ⟨rfl,I⟩
def zcw(S:List Nd)(i:Nat)(x:Int):Bool:=(List.range i).any fun j=>(nd S j).u && decide (toF S j=x)
theorem zjV{S:List Nd}{i:Nat}(w:(nd S i).u=true)(x:Int):(if x=toF S i then true else zcw S i x)=zcw S (i+1) x:=by
 unfold zcw;rw[List.range_succ,List.any_append];by_cases e:x=toF S i
 ·simp[e,w]
 ·have:¬ toF S i=x:=fun h=>e h.symm;simp[e,this]
theorem zlV{S:List Nd}{i:Nat}(w:(nd S i).u=false)(x:Int):zcw S i x=zcw S (i+1) x:=by
 unfold zcw;rw[List.range_succ,List.any_append];simp[w]
theorem zlU{S:List Nd}(h:WF S)(k:Nat):zcw S S.length (k:Int)=decide (zcJ S S.length k≠[]):=by
 rw[Bool.eq_iff_iff,decide_eq_true_iff,zlb h];unfold zcw;rw[List.any_eq_true];constructor
 ·rintro⟨j,D,w⟩;simp at w;exact⟨j,List.mem_range.1 D,w.1,w.2⟩
 ·rintro⟨n,hn,w,A⟩;exact⟨n,List.mem_range.2 hn,by simp[w,A]⟩
theorem zpm{S:List Nd}(h:WF S){k:Nat}(w:k<S.length):-1<=toF S k/\toF S k<S.length:=by
 unfold toF toL
 cases hf:(zcG S k).find? (fun s=>decide ((k:Int) ∈ s.gv)) with
 | none=>simp;omega
 | some s =>
  have h1:=List.mem_of_find?_eq_some hf;unfold zcG at h1
  split at h1
  ·cases h1
  ·obtain⟨_,q,_,_,_,_,e,hq,_⟩:=zbe h h1;show -1<=s.pl/\s.pl < _;omega
theorem zqs(a:Option Addr)(c:Nat)(S:List Nd)(k:Nat)(u:Int)(w:World)(wf:WF S)(hC:zeu a c S)(hS:zae w a S)(hk:k<S.length)(hE:zar S [((k:Int),u)]=0) :
  Calls Tryz.prog 43 #[.agg #[.slice a S.length c],.agg #[.int .i64 (k:Int),.int .i64 u]] w fun e w' => ∃ v,e=.returned (.tuple #[v,.int .i64 0])/\Below w.heap.size w w' /\ w'.ownsRow w.heap.size 3 1 v (zeg S k).length ((zeg S k).map (Value.int .i64)):=by
 have hN:=wf.small;have df:=fun(W:World) (ha:Option Addr) (hW:zae W a S) (hH:zam W ha [((k:Int),u)])=>zbd a c S ha 1 [((k:Int),u)] W (by omega) hC hW (by simp) hH;rw[hE] at df;have DF:Hid _:=df;have HS:Hid (zae w a S):=hS;have TO:Hid (∀ (y:Nat),y<S.length->∀ A,zae A a S->Calls _ _ _ _ _):=fun y hy A h1=>zoW a c S y A wf hC hy h1;have TR:Hid (∀ y,y<S.length->-1<=toF S y/\toF S y<S.length):=fun y hy=>zpm wf hy;have GU:Hid (∀ i,(nd S i).u=true->∀ x,(if x=toF S i then true else zcw S i x)=zcw S (i+1) x):=fun i h x=>zjV h x;have GN:Hid (∀ i,(nd S i).u=false->∀ x,zcw S i x=zcw S (i+1) x):=fun i h x=>zlV h x
 have d6:Hid (∀ (W:World) (M bs bw bg mb cnt:Nat),M<W.heap.size->bs≠M->bw≠M->bg≠M->mb≠M->(∀ A,Off (fun k=>k=M) W A->zae A a S)->W.cell? ⟨bs,0,none⟩=some (.slice a S.length c)->W.cell? ⟨bw,0,none⟩=some (.func (.func 90) #[] #[.pointer (some ⟨M,0,none⟩),.pointer (some ⟨bs,0,none⟩),.pointer (some ⟨bw,0,none⟩),.pointer (some ⟨bg,0,none⟩)])->W.cell? ⟨bg,0,none⟩=some (.map (some mb))->zaA W mb cnt (zcw S S.length)->(∀ b o,a=some ⟨b,o,none⟩->b≠M)->∀ A,zce W M [] A ->
   Calls Tryz.prog 90 #[.int .i64 (k:Int),.pointer (some ⟨M,0,none⟩),.pointer (some ⟨bs,0,none⟩),.pointer (some ⟨bw,0,none⟩),.pointer (some ⟨bg,0,none⟩)] A fun e w2=>e=.returned (.tuple #[])/\zce W M (zeg S k) w2):=fun W M bs bw bg mb cnt h1 h2 h3 h4 h5 h6 h7 h8 h9 g9 i0 A hI =>
  znN a c S W M bs bw bg mb cnt (zcw S S.length) wf hC h1 h2 h3 h4 h5 h6 h7 h8 h9 g9 i0 (fun j=>zlU wf j) (zsg S) k [] A hk (zfd wf (znV wf) hk) (by have:=zkZ wf hk;unfold zeg at this;simp;omega) hI
 have eg:=enters_of Tryz.func90 (by kernel_rfl) rfl;have j0:=@run_makeMap Tryz.prog;clear hS hC df hE wf;generalize zeg S k=a4 at *;obtain⟨n,hn⟩:∃ n,S.length=n:=⟨_,rfl⟩;have HN:Hid (S.length=n):=hn;rw[hn] at hN hk DF TO TR d6 |-;clear hn
 go_enter Tryz.func43,Tryz.ntmps43
 go_wp2_with fail
 refine yf (DF.out _ _ (HS.out.below (zal _ _ _ _)) (zaV _ _ _ _ (by go_simp) (by go_simp))) ?_;rintro e A ⟨rfl,b8⟩;simp only[yk] at b8;obtain⟨l0,l1,j2,f6⟩:=zgi b8;have d8:Hid _:=f6;have q0:w.heap.size<A.heap.size:=by omega
 have q1:w.heap.size+1<A.heap.size:=by omega
 clear b8 f6 DF;have d9:Hid (zaA ((A.alloc (.map #[] 0)).alloc (.cells #[.map (some A.heap.size)] 125)) A.heap.size 0 (zcw S 0)):=((zaA.made A).kept (Below.heap_alloc _ _ _ (by simp))).congr (fun x=>rfl)
 have G0:Hid (((A.alloc (.map #[] 0)).alloc (.cells #[.map (some A.heap.size)] 125)).heap[A.heap.size+1]?=some (.cells #[.map (some A.heap.size)] 125 (0,0))):=by
  have:=heap_alloc_new (A.alloc (.map #[] 0)) (.cells #[.map (some A.heap.size)] 125);rw[yk] at this;exact this
 go_wp2_with fail
 go_loopg [23] n (fun g s wr=>∃ i:Nat,i<=n/\n-i<=g/\s=.int .i64 i/\A.heap.size+2<=wr.heap.size/\Hid (Below A.heap.size A wr)/\wr.heap[A.heap.size+1]?=some (.cells #[.map (some A.heap.size)] 125 (0,0))/\Hid (zaA wr A.heap.size i (zcw S i)))
 case atStart=>exact⟨0,by omega,by omega,rfl,by simp,zai _ _ _,G0.out,d9⟩
 case round =>
  obtain⟨i,hi,hg,rfl,i9,T,bG,MK⟩:=hrel;clear d9 G0;have m0:=zac l0 T.out;have m1:=zac l1 T.out;have cG:=zbr bG;have z0:=ye _ _ m0;have z1:=ye _ _ m1;have zG:=ye _ _ cG;have D:Hid (Below w.heap.size w wr):=d8.out.trans (T.out.mono d8.out.size);by_cases b9:i<n
  ·have i7:(i:Int)<(n:Int):=by omega
   obtain⟨nb,no,ea,c0,c1,c2,c3,c4,⟨ka,kc,c5,_⟩,c6,c7⟩:=(HS.out.below D.out) i (by rw[HN.out];exact b9);subst ea;have f0:Hid _:=TO.out i b9;have g8:=TR.out i b9;have a9:Hid _:=GU.out i;have d7:Hid _:=GN.out i;generalize nd S i=x at *;obtain⟨xu,xn,xt,xm,xp,i6,xh,xc⟩:=x;dsimp only at c0 c1 c2 c3 c4 c5 c6 c7 a9 d7;generalize i6.length=xl at *;obtain⟨tt,f8⟩:∃ z,toF S i=z:=⟨_,rfl⟩;rw[f8] at f0 g8 a9;clear f8
   cases xu with
   | false =>
    have g7:Hid (∀ o1,zaA (wr.alloc o1) A.heap.size (i+1) (zcw S (i+1))):=fun o1=>((MK.out.kept ((zab wr o1).block _ MK.out.lt)).mono (by omega)).congr (d7.out rfl);have g1:Hid (∀ o1,(wr.alloc o1).heap[A.heap.size+1]?=some (.cells #[.map (some A.heap.size)] 125 (0,0))):=fun o1=>((zab wr o1).block _ zG).trans bG
    go_wp2_with fail
    go_roundg (n-(i+1))
    case measure=>omega
    case rel=>exact⟨i+1,by omega,by omega,by go_num,by simp;omega,T.out.trans ((zab _ _).mono (by omega)),g1.out _,g7.out _⟩
   | true =>
    have i4:(Lit.int .i64 tt).wf=true:=by
     unfold Lit.wf;simp[IntKind.min,IntKind.max,IntKind.signed,IntKind.bits];omega
    have j3:=World.new_ne wr _ m0;have j4:=World.new_ne wr _ cG;have g4:Hid (∀ o1,Below w.heap.size w (wr.alloc o1).drew):=fun o1=>(D.out.trans ((zab _ _).mono D.out.size)).drew
    have a8:Hid (∀ o1 w6,Below (wr.alloc o1).drew.heap.size (wr.alloc o1).drew w6->∃ Z,(Instr.mapUpdate 125 (.map (some A.heap.size)) (.int .i64 tt) (.bool true)).run Tryz.prog w6=.ok () Z/\Hid (zaA Z A.heap.size (i+1) (zcw S (i+1)))/\w6.cell? ⟨w.heap.size,0,none⟩=some (.slice (some ⟨nb,no,none⟩) n c)/\w6.cell? ⟨A.heap.size+1,0,none⟩=some (.map (some A.heap.size))/\Z.cell? ⟨w.heap.size,0,none⟩=some (.slice (some ⟨nb,no,none⟩) n c)/\Z.cell? ⟨A.heap.size+1,0,none⟩=some (.map (some A.heap.size))/\Hid (Z.heap[A.heap.size+1]?=some (.cells #[.map (some A.heap.size)] 125 (0,0)))/\Hid (Below A.heap.size A Z)/\A.heap.size+2<=Z.heap.size):=fun o1 w6 hb=>by
     have O:Below wr.heap.size wr w6:=((zab wr o1).drew).trans (hb.mono (by show wr.heap.size<=(wr.alloc o1).heap.size;simp));have j1:=O.size;obtain⟨Z,a7,i5,a5⟩:=(MK.out.kept (O.block _ MK.out.lt)).put (t:=125) Tryz.underlying125 (by unfold maxLen;omega) (k:=tt) i4 true;have f7:=a5.size;have b6:=(O.block _ zG).trans bG;have b7:=(a5.block (A.heap.size+1) (by omega) (by intro e;have:=Option.some.inj e;omega)).trans b6;exact⟨Z,a7,i5.congr (a9.out rfl),zac m0 O,zbr b6,a5.cell (a:=⟨w.heap.size,0,none⟩) (zac m0 O) (by intro e;have:w.heap.size=A.heap.size:=Option.some.inj e;omega),zbr b7,b7,(T.out.trans (O.mono (by omega))).grown a5 (by omega) (fun k hk=>by cases hk;exact yi _),by omega⟩
    go_wp2_with fail
    go_region_held3 (fun f9=>f9.cell? ⟨w.heap.size,0,none⟩=some (.slice (some ⟨nb,no,none⟩) n c)/\f9.cell? ⟨A.heap.size+1,0,none⟩=some (.map (some A.heap.size))) (go_keep) (first|(go_at_call 89;refine(yf (f0.out _ ?nd) ?_);(case nd=>exact HS.out.below (g4.out _));rintro e w6 ⟨rfl,hb⟩;obtain⟨Z,a7,g6,s0,s1,p0,p1,g0,g2,f7⟩:=a8.out _ w6 hb;clear hb))
    go_wp2_with fail
    go_roundg (n-(i+1))
    case measure=>omega
    case rel=>exact⟨i+1,by omega,by omega,by go_num,f7,g2,g0.out,g6⟩
  ·have i1:n=i:=by omega
   subst i1;obtain⟨V,hV⟩:∃ V,V=wr:=⟨_,rfl⟩;subst hV;obtain⟨F,I⟩:∃ F,(V.alloc (.cells #[.slice none 0 0] 29)).alloc (.cells #[.func (.func 90) #[] #[.pointer (some ⟨V.heap.size,0,none⟩),.pointer (some ⟨w.heap.size,0,none⟩),.pointer (some ⟨V.heap.size+1,0,none⟩),.pointer (some ⟨A.heap.size+1,0,none⟩)]] 127)=F:=⟨_,rfl⟩;have i2:F.heap.size=V.heap.size+2:=by rw[<- I];simp
   have J:Below V.heap.size V F:=by rw[<- I];exact zai _ _ _
   have e0:=zac m0 J;have e1:=zac m1 J;have eG:=zac cG J;have eO:F.cell? ⟨V.heap.size,0,none⟩=some (.slice none 0 0):=by rw[<- I];exact zaH V _ _ 0 _ rfl
   have eW:F.cell? ⟨V.heap.size+1,0,none⟩=some (.func (.func 90) #[] #[.pointer (some ⟨V.heap.size,0,none⟩),.pointer (some ⟨w.heap.size,0,none⟩),.pointer (some ⟨V.heap.size+1,0,none⟩),.pointer (some ⟨A.heap.size+1,0,none⟩)]):=by rw[<- I];exact zaI V _ _ 0 _ rfl
   have eF:F.frozen? ⟨V.heap.size,0,none⟩=false:=by rw[<- I];exact zbD ((Below.heap_alloc _ _ _ (by simp)).trans (heap_alloc_new V _))
   have e6:=MK.out.kept (J.block _ MK.out.lt);have i8:=MK.out.lt;have OI:zce F V.heap.size [] F:=⟨Off.refl _ _,_,eO,eF,World.ownsRow_nil _ _ _ _⟩;have e8:∀ w5,Off (fun k=>k=V.heap.size) F w5->zae w5 a S:=fun w5 h5=>(HS.out.below D.out).below (J.trans (h5.below (by omega) (fun k hk=>by have:k=V.heap.size:=hk;omega)))
   have e7:S.length≠0->∀ b o,a=some ⟨b,o,none⟩->b≠V.heap.size:=fun h0 b o e=>by
    obtain⟨b0,o0,e0,c0,_⟩:=(HS.out.below D.out) 0 (by omega);rw[e] at e0;cases e0;have:b<V.heap.size:=ye _ _ c0;omega
   have FW:Hid _:=d6.out F V.heap.size w.heap.size (V.heap.size+1) (A.heap.size+1) A.heap.size n (by omega) (by omega) (by omega) (by omega) (by omega) e8 e0 eW eG e6 (e7 (by rw[HN.out];omega)) F OI;have b4:Hid (Below w.heap.size w F):=D.out.trans (J.mono D.out.size);have b5:Hid (V.heap.size<F.heap.size/\V.heap.size+1<F.heap.size/\w.heap.size<=V.heap.size):=⟨by omega,by omega,by omega⟩;have x0:=ye _ _ e0;have x1:=ye _ _ e1;have x2:=b5.out.1;have x3:=b5.out.2.1;clear e6 OI e8 e7 i2 J
   go_upto_region 14 with fail
   try rw[I]
   clear I
   go_wp2_with fail
   refine yf FW.out ?_;rintro e w8 ⟨rfl,a6,v8,c8,_,U⟩;have g3:Hid (Below w.heap.size w w8):=b4.out.trans (a6.below b4.out.size (fun j hj=>by have:j=V.heap.size:=hj;have:=b5.out.2.2;omega));have e9:Hid (w8.ownsRow w.heap.size 3 1 v8 a4.length (a4.map (Value.int .i64))):=zau U b4.out.size;obtain⟨ra,rc,i3,_⟩:=zcp U;subst i3;clear U a6;obtain⟨rl,c9⟩:∃ z,a4.length=z:=⟨_,rfl⟩;have g5:Hid (a4.length=rl):=c9;rw[c9] at e9 c8;clear c9
   go_wp2_with fail
   refine yq (v:=.tuple #[.slice ra rl rc,.int .i64 0]) (by simp[results,Tryz.results43,go_sem]) rfl ⟨_,rfl,g3.out,by rw[g5.out];exact e9.out⟩
end Go.Proofs.YtgjfmepbphfjoaaGreat
