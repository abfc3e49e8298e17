/-
  Parts of this proof: The pen writes every accepted expression. The contract of the reference's WriteExpr. The law of expressions that are written and read.
-/
import Derived.Test.YtkpekhpgdajabaaGreatDoorYbTPnF
import Derived.Test.YtkpekhpgdajabaaGreatDoorYTAwk
open Go.World renaming cell?->ae
open Option renaming none->af,some->ag
open Go.Lib renaming hid->ah
set_option linter.unusedVariables false
set_option maxRecDepth 100000
set_option maxHeartbeats 4000000
open Go.Lib (hid)
namespace Go.Proofs.YtkpekhpgdajabaaGreatDoor
namespace Ps
open Go.RowKit
open Ex (Ex oW pre Sa R7 fH)
theorem ao_ {G:Gen} (hG:RlG G):∀x:Ex,(∀y∈pre x,oW false y=0)->j5 G x:=by
 intro x
 induction x using Ex.Ex.ind with
 | h o s n l ih=>
  intro hp;obtain⟨h1,hs,hn,hl,hi,hb,hnm⟩:=aaE (hp _ (Sa _));have K:∀z∈l,j5 G z:=fun z hz=>ih z hz fun y hy=>hp y (R7 hz hy);have l0:fH o=0->l=[]:=fun q=>List.length_eq_zero_iff.1 bT;have l1:fH o=1->∃a,l=[a]:=fun q=>List.length_eq_one_iff.1 bT;have l2:fH o=2->∃a b,l=[a,b]:=fun q=>by
   match l,hl with
   | [a,b],_=>exact⟨a,b,rfl⟩
   | [],h=>rw[q] at h;simp at h
   | [_],h=>rw[q] at h;simp at h
   | _::_::_::_,h=>rw[q] at h;simp at h;omega
  rcases (show o=1∨o=2∨o=3∨o=4∨o=5∨o=6∨o=7∨o=8∨o=9∨o=10∨o=11∨o=12∨o=13∨o=14∨o=15∨o=16∨o=17∨o=18∨o=19∨o=20∨o=21∨o=22∨o=23∨o=24 by omega) with rfl|rfl|rfl|rfl|rfl|rfl|rfl|rfl|rfl|rfl|rfl|rfl|rfl|rfl|rfl|rfl|rfl|rfl|rfl|rfl|rfl|rfl|rfl|rfl
  · rw[l0 bR,hs bR bR];by_cases h0:n<0
    · exact apx hG h0 (hi rfl).1
    · exact apA hG h0 (hi rfl).2
  · rw[l0 bR,hs bR bR];rcases hb rfl with rfl|rfl
    · exact apk hG
    · exact apD hG
  · rw[l0 bR,hn bR bR];exact apv hG s
  · rw[l0 bR,hs bR bR,hn bR bR];exact apz hG
  · obtain⟨a,rfl⟩:=l1 bR;rw[hs bR bR,hn bR bR];exact apw hG (K a (.head _))
  · obtain⟨a,rfl⟩:=l1 bR;rw[hs bR bR,hn bR bR];exact apy hG (K a (.head _))
  · obtain⟨a,rfl⟩:=l1 bR;rw[hs bR bR,hn bR bR];exact apj hG (K a (.head _))
  · obtain⟨a,rfl⟩:=l1 bR;rw[hs bR bR,hn bR bR];exact apC hG (K a (.head _))
  · obtain⟨a,b,rfl⟩:=l2 bR;rw[hs bR bR,hn bR bR];exact api hG (K a (.head _)) (K b (.tail _ (.head _)))
  · obtain⟨a,b,rfl⟩:=l2 bR;rw[hs bR bR,hn bR bR];exact apa hG (K a (.head _)) (K b (.tail _ (.head _)))
  · obtain⟨a,b,rfl⟩:=l2 bR;rw[hs bR bR,hn bR bR];exact apb hG (K a (.head _)) (K b (.tail _ (.head _)))
  · obtain⟨a,b,rfl⟩:=l2 bR;rw[hs bR bR,hn bR bR];exact apc hG (K a (.head _)) (K b (.tail _ (.head _)))
  · obtain⟨a,b,rfl⟩:=l2 bR;rw[hs bR bR,hn bR bR];exact apd hG (K a (.head _)) (K b (.tail _ (.head _)))
  · obtain⟨a,b,rfl⟩:=l2 bR;rw[hs bR bR,hn bR bR];exact ape hG (K a (.head _)) (K b (.tail _ (.head _)))
  · obtain⟨a,b,rfl⟩:=l2 bR;rw[hs bR bR,hn bR bR];exact apf hG (K a (.head _)) (K b (.tail _ (.head _)))
  · obtain⟨a,b,rfl⟩:=l2 bR;rw[hs bR bR,hn bR bR];exact apq hG (K a (.head _)) (K b (.tail _ (.head _)))
  · obtain⟨a,b,rfl⟩:=l2 bR;rw[hs bR bR,hn bR bR];exact apm hG (K a (.head _)) (K b (.tail _ (.head _)))
  · obtain⟨a,b,rfl⟩:=l2 bR;rw[hs bR bR,hn bR bR];exact apg hG (K a (.head _)) (K b (.tail _ (.head _)))
  · obtain⟨a,b,rfl⟩:=l2 bR;rw[hs bR bR,hn bR bR];exact aph hG (K a (.head _)) (K b (.tail _ (.head _)))
  · obtain⟨a,b,rfl⟩:=l2 bR;rw[hs bR bR,hn bR bR];exact apu hG (K a (.head _)) (K b (.tail _ (.head _)))
  · obtain⟨a,b,rfl⟩:=l2 bR;rw[hs bR bR,hn bR bR];exact apt hG (K a (.head _)) (K b (.tail _ (.head _)))
  · rw[l0 bR,hn bR bR];exact apl hG s
  · rw[l0 bR,hn bR bR];exact apB hG s
  · rw[l0 bR,hn bR bR];exact apE hG s
end Ps
namespace Ps
open Go.RowKit
open Lx (mkS)
open Ex (Ex Gives bX In fI)
open Md (bU)
theorem apH {G:Gen} (hG:RlG G) (e:Ex) (q:Option Addr) (m c n:Nat) (w:World) (hI:In w e q m) (hk:fI false e=0) (hn:n<18446744073709551616):Calls Tryz.prog 6 #[.agg #[.int .i64 e.o,.string e.s,.int .i64 e.n,.slice q m c],.int .u64 (n:Int)] w (Gives (.string (mkS (txt G (eZ e) n).1)) w):=by
 obtain⟨hc,-,hp⟩:=Ex.GI hk;have HX:=ah (ao_ hG e hp);have hl:([]:List UInt8).length+(txt G (eZ e) n).1.length<=1000000:=by
  have:=(QK e hp).sz G n;simp only[List.length_nil];omega
 have HL:=ah hl;obtain⟨w2,hw2⟩:∃w2,(w.alloc (.cells #[.int .i64 e.o,.string e.s,.int .i64 e.n,.slice q m c] 25)).alloc (.cells #[.int .u64 (n:Int),.string ⟨#[]⟩] 65)=w2:=⟨_,rfl⟩
 have e1:(w.alloc (.cells #[.int .i64 e.o,.string e.s,.int .i64 e.n,.slice q m c] 25)).heap.size=w.heap.size+1:=by simp
 have S0:=bU.new (w:=w.alloc (.cells #[.int .i64 e.o,.string e.s,.int .i64 e.n,.slice q m c] 25)) (t:=65) (c:=#[.int .u64 (n:Int),.string ⟨#[]⟩]);have BB:Below w.heap.size w ((w.alloc (.cells #[.int .i64 e.o,.string e.s,.int .i64 e.n,.slice q m c] 25)).alloc (.cells #[.int .u64 (n:Int),.string ⟨#[]⟩] 65)):=bl;rw[e1] at S0;have HP:Hid (PnB (w.heap.size+1) n [] ((w.alloc (.cells #[.int .i64 e.o,.string e.s,.int .i64 e.n,.slice q m c] 25)).alloc (.cells #[.int .u64 (n:Int),.string ⟨#[]⟩] 65))):=ah ⟨S0,hn⟩;have HK:Hid (bX (fun b=>¬b=w.heap.size+1) ((w.alloc (.cells #[.int .i64 e.o,.string e.s,.int .i64 e.n,.slice q m c] 25)).alloc (.cells #[.int .u64 (n:Int),.string ⟨#[]⟩] 65)) e q m):=ah (Ex.bX.map BB.size (fun b _ hlt=>⟨by omega,BB.block b hlt⟩) e hI);have bY:=ah BB;clear hG hI hk hn hc hp hl hw2 S0 e1 BB;go_enter Tryz.func6,Tryz.ntmps6;go_wp2_with fail;refine(HX.out _ _ _ _ q m c HP.out HK.out HL.out).mono ?_;rintro e' w3 ⟨rfl,b3,P3⟩;rw[List.nil_append] at P3;have c1:=P3.c1;have B3:Hid (Below w.heap.size w w3):=ah ⟨b3.os.trans bY.out.os,b3.tape.trans bY.out.tape,b3.output.trans bY.out.output,Nat.le_trans bY.out.size b3.size,fun k hk=>(b3.block k (Nat.lt_of_lt_of_le hk bY.out.size) bT).trans (bY.out.block k hk)⟩;clear b3 P3;go_wp2_with fail;go_ret;exact⟨rfl,B3.out⟩
end Ps
namespace Ps
open Go.RowKit
open Lx (bs mkS)
open Ex (Ex Gives bX In cnt fI Sg)
open Md (bU)
theorem ao6 (G:Gen) {x:Ex} (s:Nat) (hc:fI false x=0):o_ (txt G (eZ x) s).1=(x,0,0)/\o_ (40::((txt G (eZ x) s).1++[41]))=(x,0,0):=by
 have hl:=aoB G s hc;obtain⟨h1,h2⟩:=alR G s hc;obtain⟨e1,r1⟩:=h1 bT;obtain⟨e2,r2⟩:=h2 bT;exact⟨aa_ e1 r1 hc,aa_ e2 r2 hc⟩
theorem ao9 (e:Ex) (q:Option Addr) (m c n:Nat) (w:World) (hI:In w e q m) (hS:Ex.Sz e) (hC:cnt e<=1000000) (hn:n<18446744073709551616) (hE:Nu.Env w):Calls Tryz.prog 3 #[.agg #[.int .i64 e.o,.string e.s,.int .i64 e.n,.slice q m c],.int .u64 n] w (Gives (.bool true) w):=by
 have HE:=ah hE;have HI:=ah hI;have CK:=ah (fun W (hW:In W e q m)=>Sg e q m c W hW hS hC);by_cases hk:fI false e=0
 · obtain⟨G,hG⟩:=ao7;have CW:=ah (fun W (hW:In W e q m)=>apH hG e q m c n W hW hk hn);have hl:=aoB G n hk;obtain⟨b1,b2⟩:=ao6 G n hk;obtain⟨S,hs⟩:∃S,mkS (txt G (eZ e) n).1=S:=⟨_,rfl⟩
   have hz:S.size<=4200:=by rw[← hs];exact hl
   have e1:bs S=(txt G (eZ e) n).1:=by rw[← hs];rfl
   rw[hs] at CW;have CP:=ah (fun W (hW:Nu.Env W)=>X7 S W bT hW);have CQ:=ah (fun W (hW:Nu.Env W)=>X7 ((⟨#[40]⟩:ByteArray)++S++(⟨#[41]⟩:ByteArray)) W (by rw[ByteArray.size_append,ByteArray.size_append];show 1+S.size+1<=_;omega) hW);have e2:bs ((⟨#[40]⟩:ByteArray)++S++(⟨#[41]⟩:ByteArray))=40::((txt G (eZ e) n).1++[41]):=by rw[Lx.ae5,Lx.ae5,e1];rfl
   rw[e1,b1] at CP;rw[e2,b2] at CQ;rw[hk] at CK;have hzz:decide ((20000:Int)<(S.size:Int))=false:=decide_eq_false bT;have hz2:(S.size:Int)<=9223372036854775807:=by omega
   obtain⟨S1,hS1⟩:∃S1,(⟨#[40]⟩:ByteArray)++S=S1:=⟨_,rfl⟩
   obtain⟨S2,hS2⟩:∃S2,S1++(⟨#[41]⟩:ByteArray)=S2:=⟨_,rfl⟩
   have a1:∀W,(Op.stringOp .add ⟨#[40]⟩ S).run Tryz.prog W=.ok (.string S1) W:=fun W=>by rw[run_string_add_sum W _ _ (by show 1+S.size<=_;omega),hS1]
   have z1:S1.size=1+S.size:=by rw[← hS1,ByteArray.size_append];rfl
   have a2:∀W,(Op.stringOp .add S1 ⟨#[41]⟩).run Tryz.prog W=.ok (.string S2) W:=fun W=>by rw[run_string_add_sum W _ _ (by rw[z1];show 1+S.size+1<=_;omega),hS2]
   rw[hS1,hS2] at CQ;clear hE hI hS hC hn hk hl b1 b2 hs e1 e2 hG hz hS1 hS2 z1;go_enter Tryz.func3,Tryz.ntmps3;go_wp2_with fail;refine(CK.out _ (HI.out.on bl)).mono ?_;rintro e' w1 ⟨rfl,b1⟩;have Y:=ah ((bU.new (w:=w) (t:=25) (c:=#[.int .i64 e.o,.string e.s,.int .i64 e.n,.slice q m c])).on b1);have B1:Hid (Below w.heap.size w w1):=ah bl;clear b1;obtain⟨y0,y1,y2,y3⟩:ae w1 ⟨w.heap.size,0,af⟩=ag (.int .i64 e.o)/\ae w1 ⟨w.heap.size,1,af⟩=ag (.string e.s)/\ae w1 ⟨w.heap.size,2,af⟩=ag (.int .i64 e.n)/\ae w1 ⟨w.heap.size,3,af⟩=ag (.slice q m c):=⟨Y.out.get rfl,Y.out.get rfl,Y.out.get rfl,Y.out.get rfl⟩
   go_wp2_with fail;refine(CW.out _ (HI.out.on B1.out)).mono ?_;rintro e' w2 ⟨rfl,b2⟩;replace Y:=ah (Y.out.on b2);have B2:Hid (Below w.heap.size w w2):=ah (by have q1:=B1.out;exact bl);clear b2 y0 y1 y2 y3;go_wp2_with fail;refine(CP.out _ (HE.out.below (by have q1:=B2.out;exact bl))).mono ?_;rintro e' w3 ⟨b3,p1,m1,c1,rfl,k1⟩;have B3:Hid (Below w.heap.size w w3):=ah (by have q1:=B2.out;exact bl);replace Y:=ah (Y.out.on b3);have Y1:=ah (bU.new (w:=w3) (t:=25) (c:=#[.int .i64 e.o,.string e.s,.int .i64 e.n,.slice p1 m1 c1]));have K1:Hid (In w3 e p1 m1):=ah (bX.all k1);clear b3 k1;dsimp only [cu];go_wp2_with fail;refine(CQ.out _ (HE.out.below (by have q1:=B3.out;exact bl))).mono ?_;rintro e' w4 ⟨b4,p2,m2,c2,rfl,k2⟩;have B4:Hid (Below w.heap.size w w4):=ah (by have q1:=B3.out;exact bl);replace Y:=ah (Y.out.on (w2:=w4) bl);replace Y1:=ah (Y1.out.on b4);replace K1:Hid (In w4 e p1 m1):=ah (K1.out.on bl);have Y2:=ah (bU.new (w:=w4) (t:=25) (c:=#[.int .i64 e.o,.string e.s,.int .i64 e.n,.slice p2 m2 c2]));have K2:Hid (In w4 e p2 m2):=ah (bX.all k2);have hy:=Y.out.lt;have hy1:=Y1.out.lt;clear b4 k2;dsimp only [cu];have CS:=ah (fun W (h:In W e q m) (h2:In W e p1 m1)=>Ex.xC e e q m c p1 m1 c1 W h h2);have CT:=ah (fun W (h:In W e q m) (h2:In W e p1 m1)=>abf (c:=c) (c2:=c1) (Ex.SE e) h h2);have CU:=ah (fun W (h:In W e q m) (h2:In W e p2 m2)=>abf (c:=c) (c2:=c2) (Ex.SE e) h h2);rw[Ex.SE] at CS;obtain⟨y0,y1,y2,y3⟩:ae w4 ⟨w.heap.size,0,af⟩=ag (.int .i64 e.o)/\ae w4 ⟨w.heap.size,1,af⟩=ag (.string e.s)/\ae w4 ⟨w.heap.size,2,af⟩=ag (.int .i64 e.n)/\ae w4 ⟨w.heap.size,3,af⟩=ag (.slice q m c):=⟨Y.out.get rfl,Y.out.get rfl,Y.out.get rfl,Y.out.get rfl⟩
   obtain⟨z0,z1,z2,z3⟩:ae w4 ⟨w3.heap.size,0,af⟩=ag (.int .i64 e.o)/\ae w4 ⟨w3.heap.size,1,af⟩=ag (.string e.s)/\ae w4 ⟨w3.heap.size,2,af⟩=ag (.int .i64 e.n)/\ae w4 ⟨w3.heap.size,3,af⟩=ag (.slice p1 m1 c1):=⟨Y1.out.get rfl,Y1.out.get rfl,Y1.out.get rfl,Y1.out.get rfl⟩
   go_wp2_with fail;refine(CS.out _ (HI.out.on (by have q1:=B4.out;exact bl)) (K1.out.on bl)).mono ?_;rintro e' w5 ⟨rfl,b5⟩;have B5:Hid (Below w.heap.size w w5):=ah (by have q1:=B4.out;exact bl);replace Y:=ah (Y.out.on (w2:=w5) bl);replace Y1:=ah (Y1.out.on (w2:=w5) bl);replace Y2:=ah (Y2.out.on b5);replace K1:Hid (In w5 e p1 m1):=ah (K1.out.on bl);replace K2:Hid (In w5 e p2 m2):=ah (K2.out.on bl);clear b5 y0 y1 y2 y3 z0 z1 z2 z3;obtain⟨y0,y1,y2,y3⟩:ae w5 ⟨w.heap.size,0,af⟩=ag (.int .i64 e.o)/\ae w5 ⟨w.heap.size,1,af⟩=ag (.string e.s)/\ae w5 ⟨w.heap.size,2,af⟩=ag (.int .i64 e.n)/\ae w5 ⟨w.heap.size,3,af⟩=ag (.slice q m c):=⟨Y.out.get rfl,Y.out.get rfl,Y.out.get rfl,Y.out.get rfl⟩
   obtain⟨z0,z1,z2,z3⟩:ae w5 ⟨w3.heap.size,0,af⟩=ag (.int .i64 e.o)/\ae w5 ⟨w3.heap.size,1,af⟩=ag (.string e.s)/\ae w5 ⟨w3.heap.size,2,af⟩=ag (.int .i64 e.n)/\ae w5 ⟨w3.heap.size,3,af⟩=ag (.slice p1 m1 c1):=⟨Y1.out.get rfl,Y1.out.get rfl,Y1.out.get rfl,Y1.out.get rfl⟩
   go_wp2_with fail;refine(CT.out _ (HI.out.on (by have q1:=B5.out;exact bl)) (K1.out.on bl)).mono ?_;rintro e' w6 ⟨rfl,b6⟩;have B6:Hid (Below w.heap.size w w6):=ah (by have q1:=B5.out;exact bl);replace Y:=ah (Y.out.on b6);replace Y2:=ah (Y2.out.on b6);replace K2:Hid (In w6 e p2 m2):=ah (K2.out.on b6);clear b6 y0 y1 y2 y3 z0 z1 z2 z3;obtain⟨y0,y1,y2,y3⟩:ae w6 ⟨w.heap.size,0,af⟩=ag (.int .i64 e.o)/\ae w6 ⟨w.heap.size,1,af⟩=ag (.string e.s)/\ae w6 ⟨w.heap.size,2,af⟩=ag (.int .i64 e.n)/\ae w6 ⟨w.heap.size,3,af⟩=ag (.slice q m c):=⟨Y.out.get rfl,Y.out.get rfl,Y.out.get rfl,Y.out.get rfl⟩
   obtain⟨z0,z1,z2,z3⟩:ae w6 ⟨w4.heap.size,0,af⟩=ag (.int .i64 e.o)/\ae w6 ⟨w4.heap.size,1,af⟩=ag (.string e.s)/\ae w6 ⟨w4.heap.size,2,af⟩=ag (.int .i64 e.n)/\ae w6 ⟨w4.heap.size,3,af⟩=ag (.slice p2 m2 c2):=⟨Y2.out.get rfl,Y2.out.get rfl,Y2.out.get rfl,Y2.out.get rfl⟩
   go_wp2_with fail;refine(CU.out _ (HI.out.on (by have q1:=B6.out;exact bl)) (K2.out.on bl)).mono ?_;rintro e' w7 ⟨rfl,b7⟩;have B7:Hid (Below w.heap.size w w7):=ah (by have q1:=B6.out;exact bl);clear b7 y0 y1 y2 y3 z0 z1 z2 z3;go_wp2_with fail;refine(aeG _ (HE.out.below (by have q1:=B7.out;exact bl))).mono ?_;rintro e' wz ⟨rfl,hbz⟩;have BZ:Hid (Below w.heap.size w wz):=ah (by have q1:=B7.out;exact bl);clear hbz;go_wp2_with fail;go_ret;exact⟨rfl,BZ.out⟩
 · obtain⟨v,hv⟩:∃v,fI false e=v:=⟨_,rfl⟩
   rw[hv] at CK hk;have h1:(v==0)=false:=beq_eq_false_iff_ne.2 hk;have h2:(v != 0)=true:=bne_iff_ne.2 hk;clear hE hI hS hC hn hv hk;go_enter Tryz.func3,Tryz.ntmps3;go_wp2_with fail;refine(CK.out _ (HI.out.on bl)).mono ?_;rintro e' w1 ⟨rfl,hb1⟩;have B1:Hid (Below w.heap.size w w1):=ah bl;clear hb1;go_wp2_with fail;refine(aeG _ (HE.out.below (by have q1:=B1.out;exact bl))).mono ?_;rintro e' wz ⟨rfl,hbz⟩;have BZ:Hid (Below w.heap.size w wz):=ah (by have q1:=B1.out;exact bl);clear hbz;go_wp2_with fail;go_ret;exact⟨rfl,BZ.out⟩
end Ps
end Go.Proofs.YtkpekhpgdajabaaGreatDoor
