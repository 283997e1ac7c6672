/-
  x
-/
import Derived.Test.YtcbcpomacdngmaaGreatQ13
namespace Go.Proofs.YtcbcpomacdngmaaGreat
set_option maxRecDepth 100000
set_option maxHeartbeats 4000000
set_option linter.unusedVariables false
open Go.RowKit
def tst(q:List Tst)(i:Nat):Tst:=q.getD i ⟨0,0,false⟩
def zch(w:World)(a:Option Addr)(q:List Tst):Prop :=
 ∀ i,i<q.length->∃ b o,a=some ⟨b,o,none⟩/\w.cell? ⟨b,o+i*3,none⟩=some (.int .i64 (tst q i).t)/\w.cell? ⟨b,o+i*3+1,none⟩=some (.int .i64 (tst q i).m)/\w.cell? ⟨b,o+i*3+2,none⟩=some (.bool (tst q i).near)
theorem zch.below{w w' : World}{a:Option Addr}{q:List Tst}(h:zch w a q)(D:Below w.heap.size w w'):zch w' a q:=fun i hi=>by
 obtain⟨b,o,e,h1,E,F⟩:=h i hi;exact⟨b,o,e,(D.cell (yd w ⟨b,o+i*3,none⟩ h1)).trans h1,(D.cell (yd w ⟨b,o+i*3+1,none⟩ E)).trans E,(D.cell (yd w ⟨b,o+i*3+2,none⟩ F)).trans F⟩
theorem zxf{q:List Tst}{j:Nat}(h:j<q.length):(q.take (j+1)).reverse=tst q j ::(q.take j).reverse:=by
 rw[List.take_add_one,List.getElem?_eq_getElem h,List.reverse_append];unfold tst;rw[zae q _ h];rfl
theorem zuS{S:List Nd}{te:Tst}{l:List Tst}{ps:List Int}:zrY S (te :: l) ps=if l.length=0 then zgH S te ps else zrY S l (zcP S te.near (zgH S te ps)):=by
 cases l with
 | nil=>rfl
 | cons D r=>rfl
theorem zrR(S:List Nd)(a:Option Addr)(c:Nat)(te:Tst)(w:World)(hS:zah w a S)(D:Nat)(ps:List Int)(b4:zcg S ps)(v:Value)(W:World)(hb:Below w.heap.size w W)(U:D<W.heap.size)(cs:W.cell? ⟨w.heap.size,0,none⟩=some (.slice a S.length c))(t0:W.cell? ⟨D,0,none⟩=some (.int .i64 te.t))(t1:W.cell? ⟨D,1,none⟩=some (.int .i64 te.m))(t2:W.cell? ⟨D,2,none⟩=some (.bool te.near))
  (I:W.ownsRow (w.heap.size+1) 3 1 v ps.length (ps.map (Value.int .i64))) (b0:∀ k,v.ownBlock=some k->k≠D) :
  Calls Tryz.prog 197 #[v,.func (.func 211) #[] #[.pointer (some ⟨D,0,none⟩),.pointer (some ⟨w.heap.size,0,none⟩)]] W fun e w' => ∃ v', e=.returned v' /\ Below w.heap.size w w' /\ w'.ownsRow (w.heap.size+1) 3 1 v' (zgH S te ps).length ((zgH S te ps).map (Value.int .i64))/\(∀ o,w'.cell? ⟨D,o,none⟩=W.cell? ⟨D,o,none⟩)/\w'.cell? ⟨w.heap.size,0,none⟩=some (.slice a S.length c)/\W.heap.size<=w'.heap.size:=by
 have eg:=enters_of Tryz.func211 (by kernel_rfl) rfl;rcases I.2 with ⟨e,e0⟩ |⟨g,cap,b5,e,hg,Z,h3,h4,h5,h6⟩
 ·subst e;have a5:ps=[]:=List.length_eq_zero_iff.1 e0;subst a5;refine(zkm _ _ W eg).mono ?_;rintro e w' ⟨rfl,E⟩;exact⟨_,rfl,hb.trans (E.mono hb.size),World.ownsRow_nil _ _ _ _,fun o=>E.cell (by exact U),(E.cell (yd _ _ cs)).trans cs,E.size⟩
 ·subst e;have a9:g≠D:=b0 g rfl;have b6:g<W.heap.size:=(Array.getElem?_eq_some_iff.1 Z).1;have M:cap<=9223372036854775807:=by unfold maxLen at h4;omega
  obtain⟨_,_,_,_,G,hG,a8⟩:=zlc I
  have a6:∀ J,Off (fun b=>b=g) W J->Below w.heap.size w J/\(∀ o,J.cell? ⟨D,o,none⟩=W.cell? ⟨D,o,none⟩)/\J.cell? ⟨w.heap.size,0,none⟩=some (.slice a S.length c):=fun J h1 =>
   ⟨hb.trans (h1.below hb.size (fun k hk=>by omega)),fun o=>h1.cell (by exact U) (fun e=>a9 (by simpa using e.symm)),(h1.cell (yd _ _ cs) (fun e=>by simp at e;omega)).trans cs⟩
  refine(zlE 211 _ (fun x=>!zxg te.t te.m (nd S x.toNat)) g ps.length cap ps G W rfl h3 M hG a8 eg (fun x hx J h1=>?_)).mono ?_
  ·obtain⟨k,rfl,hk⟩:=b4 x hx;obtain⟨b1,O,b3⟩:=a6 J h1;have:=zwZ a c S te.t te.m te.near D w.heap.size k J hk (hS.below b1) ((O 0).trans t0) ((O 1).trans t1) ((O 2).trans t2) b3;rw[yi];exact this
  ·rintro e w' ⟨rfl,F,G', a7,T⟩;obtain⟨b1,O,b3⟩:=a6 w' F;refine⟨_,rfl,b1,zkX a7 T (yE (ztc _ _) h3) h4 hg,O,b3,F.size⟩
theorem zwk(a:Option Addr)(c:Nat)(S:List Nd)(place:Nat)(qa:Option Addr)(qc:Nat)(q:List Tst)(w:World)(wf:WF S)(hp:place<S.length)(hS:zah w a S)(hq:q.length<=6)(hQ:zch w qa q) :
  Calls Tryz.prog 201 #[.agg #[.slice a S.length c],.int .i64 (place:Int),.slice qa q.length qc] w fun e w' => e=.returned (.bool (zeF S place q))/\Below w.heap.size w w' := by
 have hN:=wf.small;have T:Hid (∀ (te:Tst) bt ps,zcg S ps->∀ v W,Below w.heap.size w W->bt<W.heap.size->W.cell? ⟨w.heap.size,0,none⟩=some (.slice a S.length c)->W.cell? ⟨bt,0,none⟩=some (.int .i64 te.t)->W.cell? ⟨bt,1,none⟩=some (.int .i64 te.m)->W.cell? ⟨bt,2,none⟩=some (.bool te.near)->W.ownsRow (w.heap.size+1) 3 1 v ps.length (ps.map (Value.int .i64))->(∀ k,v.ownBlock=some k->k≠bt)->Calls _ _ _ _ _):=fun te bt ps e7 v W hb e1 cs t0 t1 t2 b6 e5=>zrR S a c te w hS bt ps e7 v W hb e1 cs t0 t1 t2 b6 e5;have d4:Hid (∀ pa pc places near W,zah W a S->places.length<=1000000->zaj W pa places->Calls _ _ _ _ _):=fun pa pc places near W hW hL hP=>zsp a c S pa pc places near W hN hW hL hP;have PL:Hid (∀ near ps,zcg S ps->zcg S (zcP S near ps)):=fun near ps h=>(ztS wf near h).1;have PN:Hid (∀ te ps,zcg S ps->zcg S (zgH S te ps)):=fun te ps h=>h.sift;have HS:Hid (zah w a S):=hS;have HQ:Hid (zch w qa q):=hQ
 have TR:Hid (∀ j,j<q.length->∀ ps,zrY S (q.take (j+1)).reverse ps=if j=0 then zgH S (tst q j) ps else zrY S (q.take j).reverse (zcP S (tst q j).near (zgH S (tst q j) ps))):=fun j hj ps=>by
  rw[zxf hj,zuS];simp only[List.length_reverse,List.length_take];by_cases e:j=0
  ·subst e;rfl
  ·rw[ya (by omega),ya e]
 have H0:Hid (zrY S q.reverse [(place:Int)]=zrY S (q.take q.length).reverse [(place:Int)]):=by show _=_;rw[List.take_length]
 have HP:Hid (zcg S [(place:Int)]):=fun x hx=>⟨place,by simpa using hx,hp⟩;have HD:Hid (zeF S place q=decide (0<(zrY S q.reverse [(place:Int)]).length)):=rfl;generalize zeF S place q=R at *;generalize zrY S q.reverse [(place:Int)]=F at *;clear hS hQ wf;generalize hn:S.length=n at *;have HN:Hid _:=hn;clear hn;generalize hl:q.length=L at *;have HL:Hid _:=hl;clear hl
 go_enter Tryz.func201,Tryz.ntmps201
 go_wp2
 have c0:((w.alloc (.cells #[.slice a n c] 43)).alloc (.cells #[.int .i64 (place:Int)] 3)).cell? ⟨w.heap.size,0,none⟩=some (.slice a n c):=by go_simp
 have HO:Hid (((w.alloc (.cells #[.slice a n c] 43)).alloc (.cells #[.int .i64 (place:Int)] 3)).ownsRow (w.heap.size+1) 3 1 (.slice (some ⟨w.heap.size+1,0,none⟩) 1 1) ([(place:Int)]).length (([(place:Int)]).map (Value.int .i64))):=⟨by simp,Or.inr ⟨w.heap.size+1,1,#[.int .i64 (place:Int)],rfl,yj _,by
  have:=heap_alloc_new (w.alloc (.cells #[.slice a n c] 43)) (.cells #[.int .i64 (place:Int)] 3);simpa using this,by simp,by unfold maxLen;omega,by simp,by simp⟩⟩
 go_loopg [7,8] L (fun g1 s7 s8 wr=>∃ (j:Nat) (x:Int) (ps:List Int),j<=L/\j<=g1/\x=(j:Int)-1/\s8=.int .i64 x/\ps.length<=24/\Hid (Below w.heap.size w wr)/\wr.cell? ⟨w.heap.size,0,none⟩=some (.slice a n c)/\w.heap.size<wr.heap.size/\Hid (wr.ownsRow (w.heap.size+1) 3 1 s7 ps.length (ps.map (Value.int .i64)))/\Hid (zcg S ps)/\Hid (F=zrY S (q.take j).reverse ps))
 case atStart=>exact⟨L,(L:Int)-1,[(place:Int)],yj _,yj _,rfl,rfl,by simp,zbs _ _ _,c0,by simp;omega,HO,HP,H0⟩
 case round =>
  obtain⟨j,x,ps,hj,g7,hx,rfl,e6,HB,cs,hs,a6,a7,HF⟩:=hrel;clear c0 HO HP H0;obtain⟨pa,pc,hv,I,U⟩:=zeg a6.out;have HI:Hid _:=I;have HK:Hid _:=U;clear I U;by_cases e3:j=0
  ·subst e3;have e9:x = -1:=by omega
   subst e9;clear hx
   have hR:R=decide (0<ps.length):=by
    rw[HD.out,HF.out];rfl
   have HR:Hid _:=hR;rw[hv];clear hR hv;generalize ps.length=d9 at *
   go_wp2
   go_ret;exact⟨by rw[HR.out];rfl,HB.out⟩
  ·obtain⟨i,rfl⟩:∃ i,j=i+1:=⟨j-1,by omega⟩;obtain rfl:x=(i:Int):=by omega
   clear hx;have g8:(i:Int)<(L:Int):=by omega
   obtain⟨qb,qo,rfl,q0,q1,q2⟩:=(HQ.out.below HB.out) i (by rw[HL.out];omega);have h8:=yd _ _ q0;have b2:=TR.out i (by omega) ps;have b0:Hid _:=b2;clear b2;have SI:Hid (∀ W,Below w.heap.size w W->wr.heap.size<W.heap.size->W.cell? ⟨w.heap.size,0,none⟩=some (.slice a n c)->W.cell? ⟨wr.heap.size,0,none⟩=some (.int .i64 (tst q i).t)->W.cell? ⟨wr.heap.size,1,none⟩=some (.int .i64 (tst q i).m)->W.cell? ⟨wr.heap.size,2,none⟩=some (.bool (tst q i).near)->W.ownsRow (w.heap.size+1) 3 1 (.slice pa ps.length pc) ps.length (ps.map (Value.int .i64))->Calls _ _ _ _ _):=fun W h1 h2 h3 h4 h5 h6 h7=>T.out (tst q i) wr.heap.size ps a7.out (.slice pa ps.length pc) W h1 h2 h3 h4 h5 h6 h7 (fun k hk=>by have:=HK.out k (by rw[hv];exact hk);omega);have OW:Hid (wr.ownsRow (w.heap.size+1) 3 1 (.slice pa ps.length pc) ps.length (ps.map (Value.int .i64))):=by rw[<- hv];exact a6.out
   have b1:Hid (zcg S (zgH S (tst q i) ps)):=PN.out _ _ a7.out;rw[hv];clear hv a6 a7 HI HK T;have b7:(zgH S (tst q i) ps).length<=24:=yE (ztc _ _) e6;generalize b9:zgH S (tst q i) ps=D at *;generalize c7:tst q i=te at *;have g5:Hid _:=c7;clear b9 c7;generalize b3:ps.length=d9 at *;have g4:Hid _:=b3;clear b3;obtain⟨tt,tm,tn⟩:=te;dsimp only at *
   go_wp2_with fail
   refine ye (SI.out _ (HB.out.alloc HB.out.size _) (by simp) (by go_simp) (by go_simp) (by go_simp) (by go_simp) (OW.out.alloc _)) ?_;rintro e w2 ⟨v', rfl,b4,J,c6,a8,g0⟩;obtain⟨c8,c9,a9,E,_⟩:=zeg J;have t2:w2.cell? ⟨wr.heap.size,2,none⟩=some (.bool tn):=(c6 2).trans (by go_simp);have M:Hid _:=b4;have d7:Hid (w2.ownsRow (w.heap.size+1) 3 1 (.slice c8 D.length c9) D.length (D.map (Value.int .i64))):=by rw[<- a9];exact J
   have d6:Hid _:=E;simp only[yr] at g0;have e8:w.heap.size<w2.heap.size:=by omega
   have i0:wr.heap.size<w2.heap.size:=by omega
   clear b4 J E c6;rw[a9];clear a9;by_cases b5:i=0
   ·subst b5
    have a5:Hid (F=zrY S (q.take 0).reverse D):=by
     show _=_;rw[HF.out,b0.out,yb rfl];rfl
    go_wp2
    go_roundg 0
    case measure=>omega
    case rel=>exact⟨0,-1,D,by omega,by omega,rfl,by go_num,b7,M,a8,e8,d7,b1,a5⟩
   ·have g9:(0:Int)<(i:Int):=by omega
    have a5:Hid (F=zrY S (q.take i).reverse (zcP S tn D)):=by
     show _=_;rw[HF.out,b0.out,ya b5]
    have e0:Hid (zcg S (zcP S tn D)):=PL.out _ _ b1.out;have AB:Hid _:=d4.out c8 c9 D tn w2 (HS.out.below M.out) (by omega) d6.out;generalize b8:D.length=g6 at *;clear b8
    go_wp2_with fail
    refine ye AB.out ?_;rintro e w3 ⟨v3,rfl,O,Z,e4⟩;have h9:=O.size;have e2:=(O.cell (yd _ _ a8)).trans a8;have d5:Hid (Below w.heap.size w w3):=M.out.trans (O.mono M.out.size);have d8:Hid (w3.ownsRow (w.heap.size+1) 3 1 v3 (zcP S tn D).length ((zcP S tn D).map (Value.int .i64))):=zfz Z (by omega);clear Z O
    go_wp2
    go_roundg i
    case measure=>omega
    case rel=>exact⟨i,(i:Int)-1,zcP S tn D,by omega,by omega,rfl,by go_num,by omega,d5,e2,by omega,d8,e0,a5⟩
theorem zyB:(Tryz.prog.info? 254).map (fun i=>(i.zero,i.size,i.bytes))=some (some (.agg #[.int .i64 0,.int .i64 0,.slice none 0 0]),3,40):=by kernel_rfl
def zgG(s:Slt)(v:Value):List Value:=[.int .i64 s.pl,.int .i64 s.num,v]
def ziu(L:List Slt)(K:Nat->Value):List Value:=(List.range L.length).flatMap fun i=>zgG (slt L i) (K i)
theorem zqe{L:List Slt}{s:Slt}{i:Nat}(h:i<L.length):slt (L++[s]) i=slt L i:=by
 rw[zeR (by simp;omega),zeR h,List.getElem_append_left h]
theorem zqd(L:List Slt)(s:Slt):slt (L++[s]) L.length=s:=by
 rw[zeR (by simp)];simp
theorem zpi(L:List Slt)(K:Nat->Value)(s:Slt)(v:Value):ziu L K++zgG s v=ziu (L++[s]) (fun i=>if i=L.length then v else K i):=by
 unfold ziu;rw[List.length_append,List.length_singleton,List.range_succ,List.flatMap_append]
 congr 1
 ·refine zge (fun x E=>?_);have D:=List.mem_range.1 E;have:x≠L.length:=by omega
  simp only[ya this];rw[zqe D]
 ·simp[zqd]
def ziy(B:Nat)(L:List Slt)(K:Nat->Value)(v:Value)(w:World):Prop :=
 w.ownsRow B 254 3 v L.length (ziu L K)/\∀ i,i<L.length->w.ownsRow B 3 1 (K i) (slt L i).gv.length ((slt L i).gv.map (Value.int .i64))
theorem ziy.other{B:Nat}{L:List Slt}{K:Nat->Value}{v:Value}{w w' : World}(h:ziy B L K v w)(E:∀ b,B<=b->b<w.heap.size->w'.heap[b]?=w.heap[b]?):ziy B L K v w' :=
 ⟨zau h.1 (fun k D=>E k (h.1.lt k D).1 (h.1.lt k D).2),fun i hi=>zau (h.2 i hi) (fun k D=>E k ((h.2 i hi).lt k D).1 ((h.2 i hi).lt k D).2)⟩
theorem ziy.below{B:Nat}{L:List Slt}{K:Nat->Value}{v:Value}{w w' : World}(h:ziy B L K v w)(E:Below w.heap.size w w'):ziy B L K v w' := h.other (fun b _ D=>E.block b D)
theorem ziy.base{B B' : Nat}{L:List Slt}{K:Nat->Value}{v:Value}{w:World}(h:ziy B L K v w)(D:B' <= B):ziy B' L K v w:=⟨zaP h.1 D,fun i hi=>zaP (h.2 i hi) D⟩
theorem zfY(L:List Slt)(K:Nat->Value):∀ q,((List.range q).flatMap fun i=>zgG (slt L i) (K i)).length=q*3
 | 0=>rfl
 | q+1=>by rw[List.range_succ,List.flatMap_append,List.length_append,zfY L K q];simp[zgG];omega
theorem zjR(L:List Slt)(K:Nat->Value){i j:Nat}(D:j<3):∀ {q:Nat},i<q->((List.range q).flatMap fun i=>zgG (slt L i) (K i))[i*3+j]?=(zgG (slt L i) (K i))[j]?
 | 0,hi=>by omega
 | q+1,hi=>by
  rw[List.range_succ,List.flatMap_append];by_cases e:i<q
  ·rw[List.getElem?_append_left (by rw[zfY];omega)];exact zjR L K D e
  ·have:i=q:=by omega
   subst this;rw[List.getElem?_append_right (by rw[zfY];omega),zfY,show i*3+j-i*3=j by omega];simp
theorem ziy.slts{B:Nat}{L:List Slt}{K:Nat->Value}{v:Value}{w:World}(h:ziy B L K v w):∃ a c,v=.slice a L.length c/\zgc w a L:=by
 obtain⟨E,O⟩:=h;have D:=E;obtain⟨hl,h⟩:=E;rcases h with ⟨rfl,h0⟩ |⟨g,cap,F,rfl,hb,hg,h1,T,U,Z⟩
 ·exact⟨none,0,by rw[h0],fun i hi=>by omega⟩
 ·refine⟨some ⟨g,0,none⟩,cap,rfl,fun i hi=>⟨g,0,rfl,?_⟩⟩
  have hc:∀ j,j<3->w.cell? ⟨g,i*3+j,none⟩=(zgG (slt L i) (K i))[j]?:=fun j M=>by
   rw[<- zjR L K M hi];exact D.cellAt (i*3+j) (by omega)
  obtain⟨sa,sc,I,J⟩:=zeE (O i hi);rw[yz];refine⟨hc 0 (by omega),hc 1 (by omega),sa,sc,?_,J⟩;rw[hc 2 (by omega),I];rfl
theorem ziy.step{wr wp w3:World}{B:Nat}{L:List Slt}{K:Nat->Value}{v v1 v2:Value}{s:Slt}{o3:Obj}(I:ziy B L K v wr)(hB:B<=wr.heap.size)(hs:wr.heap.size<=wp.heap.size)
  (e:∀ k,k<wr.heap.size->wp.heap[k]?=wr.heap[k]?) (E:wp.ownsRow wr.heap.size 3 1 v1 s.gv.length (s.gv.map (Value.int .i64)))
  (h3:(wp.alloc o3).grownBy w3 v.ownBlock) (M:w3.ownsRow B 254 3 v2 (L.length+1) (ziu L K++zgG s v1)) :
  ziy B (L++[s]) (fun i=>if i=L.length then v1 else K i) v2 w3:=by
 obtain⟨Z,D⟩:=I
 have T:∀ k,k<wp.heap.size->v.ownBlock≠some k->w3.heap[k]?=wp.heap[k]?:=fun k D O =>
  (h3.block k (by simp;omega) (fun e=>O e.symm)).trans (Below.heap_alloc _ _ _ D)
 refine⟨?_,fun i hi=>?_⟩
 ·rw[<- zpi,List.length_append,List.length_singleton];exact M
 ·rw[List.length_append,List.length_singleton] at hi;by_cases U:i=L.length
  ·subst U;simp only[if_true];rw[zqd];refine zau (zaP E hB) (fun k D=>?_);have hl:=E.lt k D;exact T k hl.2 (fun ek=>by have:=(Z.lt k ek).2;omega)
  ·simp only[ya U];have J:i<L.length:=by omega
   rw[zqe J];have F:=D i J;refine zau F (fun k D=>?_);have hl:=F.lt k D;exact(T k (by omega) (zcG F Z (by decide) k D)).trans (e k hl.2)
theorem zua{W:World}{b:Nat}{s:Slt}{v:Value}(c0:W.cell? ⟨b,0,none⟩=some (.int .i64 s.pl))(c1:W.cell? ⟨b,1,none⟩=some (.int .i64 s.num))(c2:W.cell? ⟨b,2,none⟩=some v):∀ j u,(zgG s v)[j]?=some u->W.cell? ((⟨b,0,none⟩:Addr).add j)=some u:=fun j u D=>by
 unfold zgG at D;rw[Addr.add_lit]
 match j,D with
 | 0,D=>cases D;exact c0
 | 1,D=>cases D;exact c1
 | 2,D=>cases D;exact c2
theorem zxD{s:Slt}{a:Option Addr}{n c:Nat}:∀ u ∈ zgG s (.slice a n c),u.oneCell' = true:=fun u D=>by
 unfold zgG at D;simp at D;rcases D with rfl|rfl|rfl <;> rfl
theorem zrT(a:Option Addr)(c:Nat)(S:List Nd)(H:Int)(w:World)(O:S.length<=9223372036854775807)(F:zah w a S)(J:zbW S H = -1) :
  Calls Tryz.prog 214 #[.agg #[.slice a S.length c],.int .i64 H] w fun e w' => e=.returned (.slice none 0 0)/\Below w.heap.size w w' := by
 have d:=fun(W:World) (T:zah W a S)=>zdk a c S H W O T;rw[J] at d;have D:Hid _:=d;have M:Hid (zah w a S):=F;clear d F J;generalize S.length=n at *
 go_enter Tryz.func214,Tryz.ntmps214
 go_wp2_with fail
 refine ye (D.out _ (M.out.below ((yk _ _).alloc (yj _) _))) ?_;rintro e U ⟨rfl,I⟩;have E:Hid (Below w.heap.size w U):=((yk _ _).alloc (yj _) _).trans (I.mono (by simp));clear I
 go_wp2_with fail
 go_ret;exact⟨rfl,E.out⟩
def zaS(w:World)(a:Option Addr)(L:List Fr):Prop :=
 ∀ i,i<L.length->∃ b o,a=some ⟨b,o,none⟩/\w.cell? ⟨b,o+i*5,none⟩=some (.int .i64 (fr L i).p)/\w.cell? ⟨b,o+i*5+1,none⟩=some (.int .i64 (fr L i).o)/\w.cell? ⟨b,o+i*5+2,none⟩=some (.int .i64 (fr L i).m)/\w.cell? ⟨b,o+i*5+3,none⟩=some (.int .i64 (fr L i).t)/\w.cell? ⟨b,o+i*5+4,none⟩=some (.bool (fr L i).g)
theorem zaS.below{w w' : World}{a:Option Addr}{L:List Fr}(h:zaS w a L)(E:Below w.heap.size w w'):zaS w' a L:=fun i hi=>by
 obtain⟨b,o,e,h1,F,I,J,h5⟩:=h i hi;have D:b<w.heap.size:=yd _ _ h1;exact⟨b,o,e,(E.cell (by exact D)).trans h1,(E.cell (by exact D)).trans F,(E.cell (by exact D)).trans I,(E.cell (by exact D)).trans J,(E.cell (by exact D)).trans h5⟩
theorem zwm{W D:World}{b F I J M O:Nat}{T v1 v2 U Z:Value}(E:Below W.heap.size W D)(c0:W.cell? ⟨b,F,none⟩=some T)(c1:W.cell? ⟨b,I,none⟩=some v1)(c2:W.cell? ⟨b,J,none⟩=some v2)(c3:W.cell? ⟨b,M,none⟩=some U)(c4:W.cell? ⟨b,O,none⟩=some Z) :
  D.cell? ⟨b,F,none⟩=some T/\D.cell? ⟨b,I,none⟩=some v1/\D.cell? ⟨b,J,none⟩=some v2/\D.cell? ⟨b,M,none⟩=some U/\D.cell? ⟨b,O,none⟩=some Z:=⟨zab c0 E,zab c1 E,zab c2 E,zab c3 E,zab c4 E⟩
theorem zdR{B:Nat}{w w' : World}(h:Below B w w')(n:Nat):Below B w (w'.drewN n):=⟨h.os,h.tape,h.output,h.size,h.block⟩
abbrev fv(x:Fr):Value:=.agg #[.int .i64 x.p,.int .i64 x.o,.int .i64 x.m,.int .i64 x.t,.bool x.g]
theorem zcC(x a b:Int)(w:World) :
  Calls Tryz.prog 66 #[.int .i64 x,.int .i64 a,.int .i64 b] w fun e w' => e=.returned (.bool (decide (a<=x/\x<=b)))/\w' = w:=by
 by_cases h1:a<=x
 ·by_cases D:x<=b
  ·have h:decide (a<=x/\x<=b)=true:=by simp[h1,D]
   rw[h];clear h
   go_enter Tryz.func66,Tryz.ntmps66
   go_wp2
   go_ret;exact⟨rfl,rfl⟩
  ·have h:decide (a<=x/\x<=b)=false:=by simp[D]
   rw[h];clear h
   go_enter Tryz.func66,Tryz.ntmps66
   go_wp2
   go_ret;exact⟨rfl,rfl⟩
 ·have h:decide (a<=x/\x<=b)=false:=by simp[h1]
  rw[h];clear h
  go_enter Tryz.func66,Tryz.ntmps66
  go_wp2
  go_ret;exact⟨rfl,rfl⟩
theorem zxk(x:Fr):decide (zgJ x 0)=decide (x.p = -1):=decide_eq_decide.2 (by unfold zgJ;simp)
theorem zzd(x:Fr){k:Nat}(h:k≠0):decide (zgJ x k)=decide (0<=x.p/\x.p<=(k:Int)-1):=decide_eq_decide.2 (by unfold zgJ;rw[ya h])
theorem zkw(x:Fr)(k:Nat)(I:k<=1000)(w:World) :
  Calls Tryz.prog 94 #[.int .i64 x.p,.int .i64 k] w fun e w' => e=.returned (.bool (decide (zgJ x k)))/\w' = w:=by
 by_cases h0:k=0
 ·subst h0;rw[zxk];obtain⟨p,D⟩:∃ p,x.p=p:=⟨_,rfl⟩;rw[D];have hd:(p == -1)=decide (p = -1):=by by_cases e:p = -1 <;> simp[e]
  clear D
  go_enter Tryz.func94,Tryz.ntmps94
  go_wp2
  go_ret
  first|exact⟨rfl,rfl⟩|exact⟨by rw[hd],rfl⟩|exact⟨by simp,rfl⟩
 ·rw[zzd x h0];obtain⟨p,D⟩:∃ p,x.p=p:=⟨_,rfl⟩;rw[D];have h1:¬ (k:Int)=0:=by omega
  have F:decide ((k:Int)=0)=false:=decide_eq_false h1;have E:Hid _:=zcC p 0 ((k:Int)-1);clear D;generalize decide (0<=p/\p<=(k:Int)-1)=r at *
  go_enter Tryz.func94,Tryz.ntmps94
  go_wp2_with fail
  refine ye (E.out _) ?_;rintro e J ⟨rfl,rfl⟩
  go_wp2
  go_ret;exact⟨rfl,rfl⟩
theorem zkv(x:Int)(w:World) :
  Calls Tryz.prog 129 #[.int .i64 x] w fun e w' => e=.returned (.bool (decide (0<=x/\x<=9)))/\w' = w:=by
 have D:Hid _:=zcC x 0 9;generalize decide (0<=x/\x<=9)=r at *
 go_enter Tryz.func129,Tryz.ntmps129
 go_wp2_with fail
 refine ye (D.out _) ?_;rintro e E ⟨rfl,rfl⟩
 go_wp2
 go_ret;exact⟨rfl,rfl⟩
theorem zoN(x:Int)(w:World) :
  Calls Tryz.prog 130 #[.int .i64 x] w fun e w' => e=.returned (.bool (decide (0<=x/\x<=7)))/\w' = w:=by
 have D:Hid _:=zcC x 0 7;generalize decide (0<=x/\x<=7)=r at *
 go_enter Tryz.func130,Tryz.ntmps130
 go_wp2_with fail
 refine ye (D.out _) ?_;rintro e E ⟨rfl,rfl⟩
 go_wp2
 go_ret;exact⟨rfl,rfl⟩
theorem zrC(x:Fr):decide (zdM x)=(decide (0<=x.o/\x.o<=9) && (decide (0<=x.m/\x.m<=7) && decide (0<=x.t/\x.t<=1000))):=by
 unfold zdM;by_cases h1:0<=x.o/\x.o<=9 <;> by_cases D:0<=x.m/\x.m<=7 <;> by_cases E:0<=x.t/\x.t<=1000 <;> simp[h1,D,E]
theorem zmY(x:Fr)(w:World) :
  Calls Tryz.prog 95 #[fv x] w fun e w' => e=.returned (.bool (decide (zdM x)))/\Below w.heap.size w w' := by
 rw[zrC];have F:Hid _:=zkv x.o;have I:Hid _:=zoN x.m;have J:Hid _:=zcC x.t 0 1000;have D:Hid (∀ E,Below w.heap.size w (w.alloc E)):=fun E=>zaa w E;generalize decide (0<=x.o/\x.o<=9)=O at *;generalize decide (0<=x.m/\x.m<=7)=T at *;generalize decide (0<=x.t/\x.t<=1000)=U at *;obtain⟨xp,xo,xm,xt,Z⟩:=x;dsimp only at F I J
 go_enter Tryz.func95,Tryz.ntmps95
 go_wp2_with fail
 refine ye (F.out _) ?_;rintro e M ⟨rfl,rfl⟩;cases O
 ·go_wp2_with fail
  go_ret;exact⟨rfl,D.out _⟩
 ·go_wp2_with fail
  refine ye (I.out _) ?_;rintro e M ⟨rfl,rfl⟩;cases T
  ·go_wp2_with fail
   go_ret;exact⟨rfl,D.out _⟩
  ·go_wp2_with fail
   refine ye (J.out _) ?_;rintro e M ⟨rfl,rfl⟩
   go_wp2_with fail
   go_ret;exact⟨by cases U <;> rfl,D.out _⟩
theorem zvG(x y:Fr):decide (zgV x y)=(decide (bits .andNot .i64 x.m y.m=0) && (x.g || !y.g)):=by
 rw[Bool.eq_iff_iff,decide_eq_true_iff];unfold zgV;simp
theorem zmO(x y:Fr)(w:World) :
  Calls Tryz.prog 96 #[fv x,fv y] w fun e w' => e=.returned (.bool (decide (zgV x y)))/\Below w.heap.size w w' := by
 rw[zvG];have F:Hid (∀ D E,Below w.heap.size w ((w.alloc D).alloc E)):=fun D E=>zam w D E;obtain⟨Z,U,J,xt,I⟩:=x;obtain⟨yp,yo,O,yt,M⟩:=y;dsimp only;generalize T:bits .andNot .i64 J O=z;by_cases h:z=0
 ·have d:decide (z=0)=true:=decide_eq_true h;have d2:(z == 0)=true:=by simp[h]
  cases I <;> cases M
  all_goals
   go_enter Tryz.func96,Tryz.ntmps96
   go_wp2_with fail
   go_ret;exact⟨by simp[h],F.out _ _⟩
 ·have d:decide (z=0)=false:=decide_eq_false h;have d2:(z == 0)=false:=by simp[h]
  go_enter Tryz.func96,Tryz.ntmps96
  go_wp2_with fail
  go_ret;exact⟨by simp[h],F.out _ _⟩
end Go.Proofs.YtcbcpomacdngmaaGreat
