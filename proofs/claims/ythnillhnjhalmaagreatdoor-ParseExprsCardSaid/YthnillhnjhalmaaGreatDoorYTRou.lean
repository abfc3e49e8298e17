/-
  Parts of this proof: The contract of the reader's routine. The contract of the reader's resource. The contracts of checkValue and checkField, and .
-/
import Derived.Test.YthnillhnjhalmaaGreatDoorYTStE
import Derived.Test.YthnillhnjhalmaaGreatDoorYTLstF
import Derived.Test.YthnillhnjhalmaaGreatDoorYTSzS
open Go.Proofs.Tryz
open Option renaming none->U,some->ag
open Go.World renaming cell?->ae,frozen?->af
open Go.Lib renaming hid->V
open Go renaming World->ah,bodyPost_ret->aj,Addr->ak
open Go.Proofs.Tryz renaming prog->ai
set_option linter.unusedVariables false
set_option maxRecDepth 100000
set_option maxHeartbeats 2000000
open Go.Lib (hid)
namespace Go.Proofs.YthnillhnjhalmaaGreatDoor
namespace Ps
open Ps.P (rt bd exp)
open Go.RowKit
open Lx (Tk)
open Sm (St dE)
open Md (Rw bX fD kr QV LJ il eZ iy dI DV)
theorem abF {l:List St} {p:Option ak} {m:Nat}:Mv (fun G w=>dE G w l p m):=fun hs hk h=>Sm.dE.map hs hk h
def Es (z:Nat) (zc:Array Value) (ps:List eZ) (pp:Option ak) (pm:Nat) (v:Value) (l:List eZ) (bo:List St) (bp:Option ak) (bm:Nat):Nat->(Nat->Prop)->ah->Prop
 | 0=>fun G w=>G z/\bX w z 210 zc
 | 1=>fun G w=>Rw 2 dI G w ps pp pm
 | 2=>fun G w=>cu 239 2 dI G w v l
 | 3=>fun G w=>dE G w bo bp bm
 | _+4=>fun _ _=>True
section
variable {z:Nat} {zc:Array Value} {ps:List eZ} {pp:Option ak} {pm:Nat} {v v':Value} {l l':List eZ} {bo QG:List St} {bp bp':Option ak} {bm Iq:Nat}
theorem tK:∀j,Mv (Es z zc ps pp pm v l bo bp bm j)
 | 0=>zx
 | 1=>kJ dI.map
 | 2=>oK dI.map
 | 3=>abF
 | _+4=>JK
theorem aof:∀j G W,(if j=2 then fun G w=>cu 239 2 dI G w v' l' else Es z zc ps pp pm v l bo bp bm j) G W->Es z zc ps pp pm v' l' bo bp bm j G W
 | 0,_,_,h=>h
 | 1,_,_,h=>h
 | 2,_,_,h=>h
 | 3,_,_,h=>h
 | _+4,_,_,h=>trivial
theorem aoe:∀j G W,(if j=3 then fun G w=>dE G w QG bp' Iq else Es z zc ps pp pm v l bo bp bm j) G W->Es z zc ps pp pm v l QG bp' Iq j G W
 | 0,_,_,h=>h
 | 1,_,_,h=>h
 | 2,_,_,h=>h
 | 3,_,_,h=>h
 | _+4,_,_,h=>trivial
end
abbrev Lu (w:ah) (B:Nat) (nm:ByteArray) (ps:List eZ) (pp:Option ak) (pm pc:Nat) (v:Value) (l:List eZ) (bo:List St) (bp:Option ak) (bm bc:Nat) (W:ah):Prop:=gZ w.heap.size B 210 #[.string nm,.slice pp pm pc,v,.slice bp bm bc] (Es w.heap.size #[.string ⟨#[]⟩,.slice U 0 0,.slice U 0 0,.slice U 0 0] ps pp pm v l bo bp bm) W
structure afX (L:Lk) (g:Nat) (r:R fD) (K:List eZ->P fD) (nm:ByteArray) (ps:List eZ) (pp:Option ak) (pm pc B:Nat) (w:ah) (k:Nat) (wr:ah):Prop where
 ex:∃l u p c,run (bd (DZ k l) K) u=r/\u.length<k/\l.length+u.length<=30001/\Lu w B nm ps pp pm pc (.slice p l.length c) l [] U 0 0 wr/\Rd L g u wr
 bt:Bt g w wr
section
variable {L:Lk} {g:Nat} {t:List Tk}
theorem NS (w:ah) (hR:Rd L g t w):Calls ai 184 #[.pointer (ag ⟨g,0,U⟩)] w (PO L g (VR il) (run NR t) w):=by
 refine eD hR ?_;clear hR;intro r HS HR HB hg;have Z:=V (bX.new (w:=w) (t:=210) (c:=#[.string ⟨#[]⟩,.slice U 0 0,.slice U 0 0,.slice U 0 0]));go_enter func184,ntmps184;go_wp2_with fail;refine po HS HB (jK _ (HR.out.low qe)) ?_;clear HS HB HR;rintro x1 u1 v1 w1-HS b1 rfl HR HB;replace Z:=bV Z w1;clear b1;have hz1:=Z.out.lt;go_wp2_with fail;refine po HS HB (als 214 DI Mr _ (HR.out.low qe) (fun _ _=>rfl) (fun W u hW _=>Zy W hW)) ?_;clear HS HB HR;rintro x2 u2 v2 w2-HS b2 ⟨p2,m2,c2,rfl,k2⟩ HR HB;replace Z:=bV Z w2;clear b2;have hz2:=Z.out.lt;have hd0:gZ w.heap.size w2.heap.size 210 #[.string x1,.slice p2 m2 c2,.slice U 0 0,.slice U 0 0] (Es w.heap.size #[.string ⟨#[]⟩,.slice U 0 0,.slice U 0 0,.slice U 0 0] [] U 0 (.slice U 0 0) [] [] U 0) (w2.alloc (.cells #[.string x1,.slice p2 m2 c2,.slice U 0 0,.slice U 0 0] 210)):=gZ.new bX.new (Nat.le_of_lt hz2) ⟨⟨Nat.le_refl _,by omega⟩,cO Z.out qe⟩ zx fun j hj G=>(match j,hj with|1,_=>Rw.nil|2,_=>cu.nil|3,_=>Sm.dE.nil|n+4,_=>trivial)
 have hd1:Hid (Lu w w2.heap.size x1 x2 p2 m2 c2 (.slice U 0 0) [] [] U 0 0 (w2.alloc (.cells #[.string x1,.slice p2 m2 c2,.slice U 0 0,.slice U 0 0] 210))):=V ⟨bX.new,Nat.le_of_lt hz2,fun k=>if k<w1.heap.size then 0 else if k=w2.heap.size then 0 else 1,by simp,fun j=>(match j with
  | 0=>⟨⟨Nat.le_refl _,by simp[hz1],by omega⟩,cO Z.out qe⟩
  | 1=>k2.map dI.map cz (fun b hb hlt=>⟨⟨by have hb':w1.heap.size<=b:=hb;omega,by have hb':w1.heap.size<=b:=hb;show(if b<w1.heap.size then 0 else if b=w2.heap.size then 0 else 1)=1;rw[if_neg bU,if_neg bU],by omega⟩,by show(w2.heap.push _)[b]?=_;rw[Array.getElem?_push,if_neg bU]⟩)
  | 2=>cu.nil
  | 3=>Sm.dE.nil
  | n+4=>trivial)⟩
 clear hd0 k2 Z;obtain⟨K,hK⟩:∃K:List eZ->P fD,(fun ls=>bd Cj fun b=>bd (exp pG) fun _=>bd fM fun _=>rt ⟨x1,x2,ls,b⟩)=K:=⟨_,rfl⟩
 have HK:=V hK;replace HS:Hid (run (bd fM fun _=>bd (DZ FU []) K) u2=r):=V (by rw[← hK];exact HS.out);clear hK;go_wp2_with fail;refine po HS HB (lF _ (HR.out.low qe)) ?_;clear HS HB HR;rintro x3 u3 v3 w3-HS b3 rfl HR HB;have HD:=V (hd1.out.up tK (w1:=w3) qe);clear b3;have sm3:=HR.out.small;have hb3:=HD.out.box.lt;clear hd1;go_wp2_with fail;go_loopg [] FU (afX L g r K x1 x2 p2 m2 c2 w2.heap.size w)
 case atStart=>exact⟨⟨[],u3,U,0,HS.out,by unfold FU;omega,by simp;omega,HD.out,HR.out⟩,HB.out⟩
 case round=>
  obtain⟨⟨l,u,p,c,hs,hk,hl,hd,hR⟩,hb⟩:=hrel;clear HS HD HR HB;obtain⟨k,rfl⟩:∃k,gk=k+1:=⟨gk-1,by omega⟩
  rw[DZ] at hs;have HL:=V hl;have HKK:=V hk;have kg:Hid (∀x v,run DI u.tail=.ok x v->is Tm u=true->Gd v/\v.length+1<=u.length):=V fun x v h hi=>by
   obtain⟨h1,h2⟩:=kU hR.gd bS hi;obtain⟨h3,h4⟩:=Mr.out h1 h;exact⟨h3,by omega⟩
  have HD:=V hd;have HR:=V hR;have HB:=V hb;have HS:=V hs;have hbl:=hd.box.lt;clear hl hk hd hR hb hs;go_wp2_with fail;refine(dH Tm _ (HR.out.low qe) bS).mono ?_;rintro e w8 ⟨b8,⟨i8,rfl,R8⟩|⟨i8,rfl,R8⟩⟩
  · have HI:=V i8;replace HS:=jw (yz HS i8);replace HD:=V (HD.out.up (tK) (w1:=w8) qe);replace HB:=dJ HB w8;replace HR:=V R8;clear b8 R8;clear i8;have lm:ae w8 ⟨w2.heap.size,2,U⟩=ag (.slice p l.length c):=HD.out.cell rfl;have rO:=HD.out.box.lt;go_wp2_with fail;go_region_law (first|(rw[if_pos (by rfl)];refine Lib.wp_append_run _ _ _ _ _ rfl _ _ rfl rfl _ _ hrun ?_)|(go_simp;go_at_call 214;refine(Zy _ (HR.out.low qe)).mono ?_;rintro e' wa h3;rcases h3.cases with⟨x3,u3,v3,r3,rfl,b3,V3,R3⟩|⟨u3,r3,rfl,b3⟩;rotate_left 1;(have bZ:=HB.out;exact⟨rfl,PO.no (fI HS (by assumption)) qe⟩);obtain rfl:=V3;obtain⟨v5,w5,hrun,⟨p5,n5,rfl⟩,k5,f5,D5,q5⟩:=HD.out.push DV dI.map A9 tK (w1:=wa) qe (i:=2) rfl bS rfl (y:=x3) (ce:=iy x3) rfl ou;(have lH:ae wa ⟨w2.heap.size,2,U⟩=ag (.slice p l.length c):=(fw HD.out.box (S:=fun k=>k≠g) qe bU).get rfl;have gY:ae (wa.alloc (.cells (iy x3) 239)) ⟨w2.heap.size,2,U⟩=ag (.slice p l.length c):=(fw HD.out.box (S:=fun k=>k≠g) qe bU).get rfl;dsimp only [iy] at hrun gY ⊢)))
    all_goals
     have HT3:=V (kg.out _ _ r3 HI.out);replace HS:=jw (fB HS r3);have HG:=V (R3.low (w2:=w5.setCell ⟨w2.heap.size,2,U⟩ (.slice p5 (l.length+1) n5)) (q5.mono fun k _ hk=>by have hk':k<=g:=hk;omega));have vE:Hid (Bt g w (w5.setCell ⟨w2.heap.size,2,U⟩ (.slice p5 (l.length+1) n5))):=V (by have bZ:=HB.out;exact bT.call (S:=fun k=>k≠g) (S':=fun k=>k<w.heap.size) (w:=wa) qe q5 (fun k hk _=>hk));have e1:(l++[x3]).length=l.length+1:=by simp
     have kQ:Hid (Lu w w2.heap.size x1 x2 p2 m2 c2 (.slice p5 (l++[x3]).length n5) (l++[x3]) [] U 0 0 (w5.setCell ⟨w2.heap.size,2,U⟩ (.slice p5 (l.length+1) n5))):=V (by rw[e1];exact D5.cast aof rfl);clear HR HB HD D5 q5 R3 b3 hrun k5 f5 r3 h3 lm lH gY kg HI;have HR:=HG;have HB:=vE;have HD:=kQ;clear HG vE kQ;go_wp2_with fail;refine po HS HB (lF _ (HR.out.low qe)) ?_;clear HS HB HR;rintro x9 u9 v9 w9 r9 HS b9 rfl HR HB;have Lp:=V (nR.out HT3.out.1 r9).2;replace HD:=V (HD.out.up (tK) (w1:=w9) qe);clear b9 r9;go_wp2_with fail;go_roundg k
     case measure=>omega
     case rel=>exact⟨⟨l++[x3],u9,p5,n5,HS.out,by have h1:=HKK.out;have h2:=Lp.out;have h3:=HT3.out.2;omega,by have h1:=HL.out;have h2:=Lp.out;have h3:=HT3.out.2;rw[e1];omega,HD.out,HR.out⟩,HB.out⟩
  · replace HS:=mI (yx HS i8);replace HS:Hid (run (bd Cj fun b=>bd (exp pG) fun _=>bd fM fun _=>rt ⟨x1,x2,l,b⟩) u=r):=V K6;replace HD:=V (HD.out.up (tK) (w1:=w8) qe);replace HB:=dJ HB w8;replace HR:=V R8;clear b8 R8;clear i8 kg;have rO:=HD.out.box.lt;go_wp2_with fail;refine po HS HB (adg _ (HR.out.low qe)) ?_;clear HS HB HR;rintro x9 u9 v9 w9-HS b9 V9 HR HB;obtain⟨p9,m9,c9,rfl,k9⟩:=V9;have y_:Hid (Lu w w2.heap.size x1 x2 p2 m2 c2 (.slice p l.length c) l x9 p9 m9 c9 (w9.setCell ⟨w2.heap.size,3,U⟩ (.slice p9 m9 c9))):=V (((HD.out.put tK (w1:=w9) qe (i:=3) bS (F2:=fun G w=>dE G w x9 p9 m9) k9 abF).cast aoe rfl).set tK 3 (.slice p9 m9 c9));replace HD:=V (HD.out.up tK (w1:=w9) qe);clear b9 k9;have lm:ae w9 ⟨w2.heap.size,3,U⟩=ag (.slice U 0 0):=HD.out.cell rfl;have fy:∀i,af w9 ⟨w2.heap.size,i,U⟩=false:=fun i=>HD.out.ny i;have DR:=HD.out.box.lt;go_wp2_with fail;clear lm fy;refine po HS HB (gX _ _ (HR.out.low qe) bS) ?_;clear HS HB HR;rintro Ku jy v10 gG-HS b10 rfl HR HB;replace y_:=V (y_.out.up tK (w1:=gG) qe);clear b10;go_wp2_with fail;refine po HS HB (lF _ (HR.out.low qe)) ?_;clear HS HB HR;rintro x11 kC v11 kM-HS b11 rfl HR HB;replace y_:=V (y_.out.up tK (w1:=kM) qe);clear b11;have Z0:=y_.out.part tK 0;have Z:=V Z0.2;have Y:Hid (bX kM w2.heap.size 210 (kr ⟨x1,x2,l,x9⟩ ⟨p2,m2,c2,p,l.length,c,p9,m9,c9⟩)):=V y_.out.box;have K1:=y_.out.off tK (z:=w.heap.size) (fun G h=>h.1) (j:=1) bS;have K2:=y_.out.off tK (z:=w.heap.size) (fun G h=>h.1) (j:=2) bS;have K3:=y_.out.off tK (z:=w.heap.size) (fun G h=>h.1) (j:=3) bS;obtain⟨p',c',e,hrw⟩:=cu.rw dI.map A9 K2 ou;obtain⟨rfl,rfl⟩:p=p'/\c=c':=by simpa using e
    have q:∀W,bT (fun k=>w.heap.size<=k/\¬k=w.heap.size/\¬k=w2.heap.size) kM W->il (fun b=>w.heap.size<=b) W ⟨x1,x2,l,x9⟩ (kr ⟨x1,x2,l,x9⟩ ⟨p2,m2,c2,p,l.length,c,p9,m9,c9⟩):=fun W q=>⟨_,rfl,⟨(gN (kJ dI.map) K1 q).mono dI.map fun b hb _=>hb.1,(gN (kJ dI.map) hrw q).mono dI.map fun b hb _=>hb.1,(JE K3 q).mono fun b hb _=>hb.1⟩⟩
    clear Z0 K1 K2 K3 e hrw HD y_;obtain⟨W,hP⟩:=jM (c:=kr ⟨x1,x2,l,x9⟩ ⟨p2,m2,c2,p,l.length,c,p9,m9,c9⟩) Z.out LJ (QV _ _) rfl;have j4:=hP.bt;have ig:=V hP.box;have j5:=hP.size;go_wp2_with (first|(refine wpList_load_row rfl 210 _ rfl _ rfl 210 _ (0,0) _ Y.out underlying210 rfl dA ?_)|(refine jN rfl 210 _ _ rfl w.heap.size _ rfl rfl hP ?_))
    have bZ:=HB.out;refine aj (v:=.agg (kr ⟨x1,x2,l,x9⟩ ⟨p2,m2,c2,p,l.length,c,p9,m9,c9⟩)) ?_ rfl (PO.ok (dD HS) qe ⟨_,rfl,q _ qe⟩ (HR.out.low qe));exact results_cell_row rfl _ _ w.heap.size 210 _ (0,0) _ rfl ig.out underlying210 rfl dA
end
end Ps
namespace Ps
open Go.RowKit
open Lx (Tk mt)
open Sm (Dt Ints zD)
open Md (Rw At bX dx eO d_ Du Bz je dV Dr jd)
theorem qO {F:(Nat->Prop)->ah->Prop} (hm:Mv F) {G H:Nat->Prop} {w:ah} (h:F G w) (hk:∀b,G b->H b):F H w:=hm (Nat.le_refl _) (fun b hb _=>⟨hk b hb,rfl⟩) h
theorem fP {l:List Int} {p:Option ak} {m:Nat}:Mv (fun G w=>Ints G w l p m):=fun hs hk h=>Sm.Ints.map hs hk h
def zG (z:Nat) (zc:Array Value) (pr:List (Int×Int)) (pp:Option ak) (pm:Nat) (v:Value) (l:List dV) (u:Dt) (a:Option ak) (am:Nat) (b:Option ak) (bm:Nat) (d:Dt) (e:Option ak) (em:Nat) (f:Option ak) (fm:Nat):Nat->(Nat->Prop)->ah->Prop
 | 0=>fun G w=>G z/\bX w z 194 zc
 | 1=>fun G w=>Rw 2 kR G w pr pp pm
 | 2=>fun G w=>cu 255 2 jd G w v l
 | 3=>fun G w=>Ints G w u.vs a am/\Ints G w u.ws b bm
 | 4=>fun G w=>Ints G w d.vs e em/\Ints G w d.ws f fm
 | _+5=>fun _ _=>True
section
variable {z:Nat} {zc:Array Value} {pr pr':List (Int×Int)} {pp pp':Option ak} {pm pm':Nat} {v v':Value} {l l':List dV} {u u':Dt} {a a':Option ak} {am W_:Nat} {b b':Option ak} {bm Iq:Nat} {d d':Dt} {e e':Option ak} {em Zj:Nat} {f f':Option ak} {fm ZM:Nat}
theorem dK:∀j,Mv (zG z zc pr pp pm v l u a am b bm d e em f fm j)
 | 0=>zx
 | 1=>kJ kR.map
 | 2=>oK jd.map
 | 3=>Gj fP fP
 | 4=>Gj fP fP
 | _+5=>JK
theorem aol:∀j G W,(if j=1 then fun G w=>Rw 2 kR G w pr' pp' pm' else zG z zc pr pp pm v l u a am b bm d e em f fm j) G W->zG z zc pr' pp' pm' v l u a am b bm d e em f fm j G W
 | 0,_,_,h=>h
 | 1,_,_,h=>h
 | 2,_,_,h=>h
 | 3,_,_,h=>h
 | 4,_,_,h=>h
 | _+5,_,_,h=>trivial
theorem aom:∀j G W,(if j=2 then fun G w=>cu 255 2 jd G w v' l' else zG z zc pr pp pm v l u a am b bm d e em f fm j) G W->zG z zc pr pp pm v' l' u a am b bm d e em f fm j G W
 | 0,_,_,h=>h
 | 1,_,_,h=>h
 | 2,_,_,h=>h
 | 3,_,_,h=>h
 | 4,_,_,h=>h
 | _+5,_,_,h=>trivial
theorem acx:∀j G W,(if j=3 then fun G w=>Ints G w u'.vs a' W_/\Ints G w u'.ws b' Iq else zG z zc pr pp pm v l u a am b bm d e em f fm j) G W->zG z zc pr pp pm v l u' a' W_ b' Iq d e em f fm j G W
 | 0,_,_,h=>h
 | 1,_,_,h=>h
 | 2,_,_,h=>h
 | 3,_,_,h=>h
 | 4,_,_,h=>h
 | _+5,_,_,h=>trivial
theorem acw:∀j G W,(if j=4 then fun G w=>Ints G w d'.vs e' Zj/\Ints G w d'.ws f' ZM else zG z zc pr pp pm v l u a am b bm d e em f fm j) G W->zG z zc pr pp pm v l u a am b bm d' e' Zj f' ZM j G W
 | 0,_,_,h=>h
 | 1,_,_,h=>h
 | 2,_,_,h=>h
 | 3,_,_,h=>h
 | 4,_,_,h=>h
 | _+5,_,_,h=>trivial
end
abbrev xm (w:ah) (B:Nat) (pr:List (Int×Int)) (pp:Option ak) (pm:Nat) (x:dx) (P:eO) (W:ah):Prop:=gZ w.heap.size B 194 (d_ x P) (zG w.heap.size #[.string ⟨#[]⟩,.int .i64 0,.slice U 0 0,.int .i64 0,.string ⟨#[]⟩,.int .i64 0,.int .i64 0,.int .i64 0,.int .i64 0,.slice U 0 0,.slice U 0 0,.int .i64 0,.int .i64 0,.int .i64 0,.int .i64 0,.slice U 0 0,.slice U 0 0] pr pp pm (.slice P.EC P.EB P.Gx) x.sh x.up P.u_ P.uZ P.vg P.ve x.dn P.uz P.uy P.uH P.uC) W
structure afY (g:Nat) (nm:ByteArray) (un:Int) (B:Nat) (l:List (Int×Int)) (p:Option ak) (w0 w:ah) (n:Nat) (v:Value) (wr:ah):Prop where
 ex:∃k q c,k+n=l.length/\v=.int .i64 ((k:Nat):Int)/\xm w0 B l p l.length ⟨nm,un,(l.take k).map (fun q=>⟨q.1,q.2⟩),0,mt,zD,zD⟩ ⟨q,k,c,U,0,0,U,0,0,U,0,0,U,0,0⟩ wr
 eq:bT (fun b=>b<w0.heap.size) w wr
section
variable {L:Lk} {g:Nat} {t:List Tk}
theorem atA {p:Prop} (h:p:=by
 have e2:=e;simp only[Value.slice.injEq] at e2;obtain⟨e3,e4,e5⟩:=e2;rw[← e3,← e4] at hrw;exact hrw
 ):p:=h
theorem atB {p:Prop} (h:p:=by
 exact results_cell_row rfl _ _ w.heap.size 194 _ (0,0) _ rfl ig.out underlying194 rfl dA
 ):p:=h
theorem anE (w:ah) (hR:Rd L g t w):Calls ai 181 #[.pointer (ag ⟨g,0,U⟩)] w (PO L g (VR je) (run qQ t) w):=by
 refine eD hR ?_;clear hR;intro r HS HR HB hg;have Z:=V (bX.new (w:=w) (t:=194) (c:=#[.string ⟨#[]⟩,.int .i64 0,.slice U 0 0,.int .i64 0,.string ⟨#[]⟩,.int .i64 0,.int .i64 0,.int .i64 0,.int .i64 0,.slice U 0 0,.slice U 0 0,.int .i64 0,.int .i64 0,.int .i64 0,.int .i64 0,.slice U 0 0,.slice U 0 0]));go_enter func181,ntmps181;go_wp2_with fail;refine po HS HB (jK _ (HR.out.low qe)) ?_;clear HS HB HR;rintro x1 u1 v1 w1-HS b1 rfl HR HB;replace Z:=bV Z w1;clear b1;have hz1:=Z.out.lt;go_wp2_with fail;refine po HS HB (lI _ (HR.out.low qe)) ?_;clear HS HB HR;rintro x2 u2 v2 w2-HS b2 ⟨rfl,n0,n1⟩ HR HB;replace Z:=bV Z w2;clear b2;have hz2:=Z.out.lt;have hd1:Hid (xm w w2.heap.size [] U 0 ⟨x1,x2,[],0,mt,zD,zD⟩ ⟨U,0,0,U,0,0,U,0,0,U,0,0,U,0,0⟩ (w2.alloc (.cells (d_ ⟨x1,x2,[],0,mt,zD,zD⟩ ⟨U,0,0,U,0,0,U,0,0,U,0,0,U,0,0⟩) 194))):=V (gZ.new bX.new (Nat.le_of_lt hz2) ⟨⟨Nat.le_refl _,by omega⟩,cO Z.out qe⟩ zx fun j hj G=>(match j,hj with|1,_=>Rw.nil|2,_=>cu.nil|3,_=>⟨mG,mG⟩|4,_=>⟨mG,mG⟩|n+5,_=>trivial));clear Z;go_wp2_with (refine adw 194 17 Bz.2 rfl _ _ rfl _ (d_ ⟨x1,x2,[],0,mt,zD,zD⟩ ⟨U,0,0,U,0,0,U,0,0,U,0,0,U,0,0⟩) rfl rfl rfl rfl (Du _ _) ?_)
 refine(dH Tp _ (HR.out.low qe) bS).mono ?_;rintro e w3 ⟨b3,⟨i3,rfl,R3⟩|⟨i3,rfl,R3⟩⟩
 · replace HS:=jw (yz HS i3);have HD:=V (hd1.out.up dK (w1:=w3) qe);have hl3:Hid (∀x v,run AX u2.tail=.ok x v->x.length<=30000):=V (ab3 (s:=Tp) HR.out.gd HR.out.small i3);replace HB:=dJ HB w3;replace HR:=V R3;clear b3 R3;clear i3 hd1;have hb3:=HD.out.box.lt;go_wp2_with fail;refine(abS _ (HR.out.low qe)).mono ?_;rintro e w4 h4;rcases h4.cases with⟨x4,u4,v4,r4,rfl,b4,V4,R4⟩|⟨u4,r4,rfl,b4⟩
   rotate_left 1
   · have bZ:=HB.out;go_wp2_with fail;exact⟨rfl,PO.no (fI HS (by assumption)) qe⟩
   have Bl:=V (hl3.out _ _ r4);replace HS:=jw (fB HS r4);obtain⟨p4,m4,c4,rfl,k4⟩:=V4;obtain rfl:x4.length=m4:=k4.1;have HD4:Hid (xm w w2.heap.size x4 p4 x4.length ⟨x1,x2,[],0,mt,zD,zD⟩ ⟨U,0,0,U,0,0,U,0,0,U,0,0,U,0,0⟩ w4):=V ((HD.out.put dK (w1:=w4) qe (i:=1) bS (F2:=fun G w=>Rw 2 kR G w x4 p4 x4.length) k4 (kJ kR.map)).cast aol rfl);replace HB:=dJ HB w4;replace HR:=V R4;clear b4 R4;clear r4 h4 hl3 k4 HD;have hb4:=HD4.out.box.lt;go_wp2_with fail;go_loopg [16] x4.length (afY g x1 x2 w2.heap.size x4 p4 w w4)
   case atStart=>exact⟨⟨0,U,0,by omega,rfl,HD4.out⟩,bT.refl _ _⟩
   case round=>
    obtain⟨⟨k,q,c,hk,rfl,hd⟩,hq⟩:=hrel;have hlen:=Bl.out;have hbr:=hd.box.lt;by_cases hkl:k<x4.length
    · have hpr:=hd.part dK 1;obtain⟨pb,o,rfl,hpb,hlt,hcc⟩:=Rw.rows hpr bU;obtain⟨cc,hc1,hc2,hc3⟩:=hcc.out k hkl;have hc3:cc=sU x4[k]:=hc3;subst hc3;obtain⟨⟨a,b⟩,hab⟩:∃q,x4[k]=q:=⟨_,rfl⟩
      rw[hab] at hc2;have hcw:At wr pb (o+k*2) #[.int .i64 a,.int .i64 b]:=hc2;have q0:wr.cell? ⟨pb,o+k*2,U⟩=ag (.int .i64 a):=by have:=hcw.get (r:=0) rfl;rwa [Nat.add_zero] at this
      have q1:wr.cell? ⟨pb,o+k*2+1,U⟩=ag (.int .i64 b):=hcw.get (r:=1) rfl;have k0:(0:Int)<=(k:Int):=by omega
      have k1:(k:Int)<(x4.length:Int):=by omega
      have k2:decide ((k:Int)<(x4.length:Int))=true:=decide_eq_true k1;have hw:IntKind.i64.wrap ((k:Int)+1)=((k+1:Nat):Int):=by rw[IntKind.wrap_i64];omega
      have e1:(wr.alloc (.cells #[.int .i64 a,.int .i64 b] 248)).heap.size=wr.heap.size+1:=by simp
      have el:((x4.take k).map (fun q=>(⟨q.1,q.2⟩:dV))).length=k:=by simp;omega
      obtain⟨v5,w5,hrun,hform,k5,f5,D5,q5⟩:=hd.push ajZ jd.map JZ dK (w1:=wr.alloc (.cells #[.int .i64 a,.int .i64 b] 248)) qe (i:=2) rfl bS rfl (y:=(⟨a,b⟩:dV)) (ce:=Dr ⟨a,b⟩) rfl (by rw[el];omega);rw[el] at hform;obtain⟨p5,n5,rfl⟩:=hform;rw[e1] at hrun;have b5:bX (wr.alloc (.cells #[.int .i64 a,.int .i64 b] 248)) wr.heap.size 248 #[.int .i64 a,.int .i64 b]:=bX.new;have lm:ae (wr.alloc (.cells #[.int .i64 a,.int .i64 b] 248)) ⟨w2.heap.size,2,U⟩=ag (.slice q k c):=(fw hd.box (S:=fun k=>k=w2.heap.size) qe rfl).get rfl;have f0:ae _ ⟨wr.heap.size,0,U⟩=ag (.int .i64 a):=b5.get rfl;have f1:ae _ ⟨wr.heap.size,1,U⟩=ag (.int .i64 b):=b5.get rfl;have HX:Hid (xm w w2.heap.size x4 (ag ⟨pb,o,U⟩) x4.length ⟨x1,x2,(x4.take (k+1)).map (fun q=>(⟨q.1,q.2⟩:dV)),0,mt,zD,zD⟩ ⟨p5,k+1,n5,U,0,0,U,0,0,U,0,0,U,0,0⟩ (w5.setCell ⟨w2.heap.size,2,U⟩ (.slice p5 (k+1) n5))/\bT (fun b=>b<w.heap.size) w4 (w5.setCell ⟨w2.heap.size,2,U⟩ (.slice p5 (k+1) n5))):=V ⟨by rw[UL _ hkl,hab];exact D5.cast aom rfl,bT.call (S':=fun k=>k<w.heap.size) hq.alloc q5 (fun k _ h=>h)⟩;dsimp only [Dr] at hrun;clear hd hq hpr hcc hc1 hc2 hcw b5 D5 q5 HS HB HR;go_wp2_with (at_builtin;refine Lib.wpList_append_run _ rfl _ _ _ _ rfl _ _ rfl rfl _ _ hrun ?_)
      go_roundg (gk-1)
      case measure=>omega
      case rel=>exact⟨⟨k+1,p5,n5,by omega,rfl,HX.out.1⟩,HX.out.2⟩
    · obtain rfl:k=x4.length:=by omega
      rw[List.take_length] at hd;have HD:=V hd;have HL:=V hlen;have k2:decide ((x4.length:Int)<(x4.length:Int))=false:=decide_eq_false bU;have k3:¬((x4.length:Int)<(x4.length:Int)):=by omega
      replace HB:Hid (Bt g w wr):=V (by have bZ:=HB.out;exact bZ.call hq (by intro k hk _;exact hk));replace HR:Hid (Rd L g u4 wr):=V (HR.out.low (hq.mono fun k _ hk=>by have hk':k<=g:=hk;omega));clear hd hq hk hkl HD4 hlen Bl;go_wp2_with fail;refine po HS HB (gX _ _ (HR.out.low qe) bS) ?_;clear HS HB HR;rintro x5 u5 v5 w5-HS b5 rfl HR HB;replace HD:=V (HD.out.up (dK) (w1:=w5) qe);clear b5;replace HS:=jw HS;have hb5:=HD.out.box.lt;go_wp2_with fail;refine po HS HB (lI _ (HR.out.low qe)) ?_;clear HS HB HR;rintro x6 u6 v6 w6-HS b6 ⟨rfl,n2,n3⟩ HR HB;replace HD:=V (HD.out.up (dK) (w1:=w6) qe);clear b6;replace HS:=mI HS;have hb6:=HD.out.box.lt;have lm:ae w6 ⟨w2.heap.size,3,U⟩=ag (.int .i64 0):=HD.out.cell rfl;have fy:∀i,af w6 ⟨w2.heap.size,i,U⟩=false:=fun i=>HD.out.ny i;go_wp2_with fail;replace HD:Hid (xm w w2.heap.size x4 p4 x4.length ⟨x1,x2,x4.map (fun q=>(⟨q.1,q.2⟩:dV)),x6,mt,zD,zD⟩ ⟨q,x4.length,c,U,0,0,U,0,0,U,0,0,U,0,0⟩ (w6.setCell ⟨w2.heap.size,3,U⟩ (.int .i64 x6))):=V (HD.out.set dK 3 (.int .i64 x6));clear lm fy;refine(dH Tj _ (HR.out.low qe) bS).mono ?_;rintro e wX ⟨b20,⟨i20,rfl,xh⟩|⟨i20,rfl,xh⟩⟩
      · replace HS:=jw (yz HS i20);replace HD:=V (HD.out.up (dK) (w1:=wX) qe);replace HB:=dJ HB wX;replace HR:=V xh;clear b20 xh;clear i20;have SE:=HD.out.box.lt;go_wp2_with fail;refine po HS HB (jK _ (HR.out.low qe)) ?_;clear HS HB HR;rintro kW u21 v21 wY-HS LD rfl HR HB;replace HD:=V (HD.out.up (dK) (w1:=wY) qe);clear LD;have akk:=HD.out.box.lt;replace HS:=jw HS;have lm:ae wY ⟨w2.heap.size,4,U⟩=ag (.string ⟨#[]⟩):=HD.out.cell rfl;have fy:∀i,af wY ⟨w2.heap.size,i,U⟩=false:=fun i=>HD.out.ny i;go_wp2_with fail;replace HD:Hid (xm w w2.heap.size x4 p4 x4.length ⟨x1,x2,x4.map (fun q=>(⟨q.1,q.2⟩:dV)),x6,kW,zD,zD⟩ ⟨q,x4.length,c,U,0,0,U,0,0,U,0,0,U,0,0⟩ (wY.setCell ⟨w2.heap.size,4,U⟩ (.string kW))):=V (HD.out.set dK 4 (.string kW));clear lm fy;refine po HS HB (gX _ _ (HR.out.low qe) bS) ?_;clear HS HB HR;rintro x22 u22 v22 GJ-HS LF rfl HR HB;replace HD:=V (HD.out.up (dK) (w1:=GJ) qe);clear LF;have akl:=HD.out.box.lt;replace HS:=jw HS;go_wp2_with fail;refine po HS HB (IE _ (HR.out.low qe)) ?_;clear HS HB HR;rintro eQ u23 v23 eY-HS ze Qn HR HB;obtain⟨om,oh,qf,oq,oo,qj,rfl,Js,Ju⟩:=Qn;have xc:=(HD.out.put dK (w1:=eY) qe (i:=3) bS (F2:=fun G w=>Ints G w eQ.vs om oh/\Ints G w eQ.ws oq oo) ⟨Js,Ju⟩ (Gj fP fP)).cast acx rfl;have kQ:Hid (xm w w2.heap.size x4 p4 x4.length ⟨x1,x2,x4.map (fun q=>(⟨q.1,q.2⟩:dV)),x6,kW,eQ,zD⟩ ⟨q,x4.length,c,om,oh,qf,oq,oo,qj,U,0,0,U,0,0⟩ (((((((eY).setCell ⟨w2.heap.size,5,U⟩ (.int .i64 eQ.op)).setCell ⟨w2.heap.size,6,U⟩ (.int .i64 eQ.a)).setCell ⟨w2.heap.size,7,U⟩ (.int .i64 eQ.b)).setCell ⟨w2.heap.size,8,U⟩ (.int .i64 eQ.n)).setCell ⟨w2.heap.size,9,U⟩ (.slice om oh qf)).setCell ⟨w2.heap.size,10,U⟩ (.slice oq oo qj))):=V (((((((xc).set dK 5 (.int .i64 eQ.op)).set dK 6 (.int .i64 eQ.a)).set dK 7 (.int .i64 eQ.b)).set dK 8 (.int .i64 eQ.n)).set dK 9 (.slice om oh qf)).set dK 10 (.slice oq oo qj));replace HD:=V (HD.out.up dK (w1:=eY) qe);clear ze Js Ju xc;have y0:ae eY ⟨w2.heap.size,5,U⟩=ag (.int .i64 0):=HD.out.cell rfl;have y1:ae eY ⟨w2.heap.size,6,U⟩=ag (.int .i64 0):=HD.out.cell rfl;have y2:ae eY ⟨w2.heap.size,7,U⟩=ag (.int .i64 0):=HD.out.cell rfl;have y3:ae eY ⟨w2.heap.size,8,U⟩=ag (.int .i64 0):=HD.out.cell rfl;have y4:ae eY ⟨w2.heap.size,9,U⟩=ag (.slice U 0 0):=HD.out.cell rfl;have y5:ae eY ⟨w2.heap.size,10,U⟩=ag (.slice U 0 0):=HD.out.cell rfl;have fy:∀i,af eY ⟨w2.heap.size,i,U⟩=false:=fun i=>HD.out.ny i;have akm:=HD.out.box.lt;dsimp only [vO];go_wp2_with fail;replace HD:=kQ;clear kQ y0 y1 y2 y3 y4 y5 fy;replace HS:=jw HS;refine po HS HB (gX _ _ (HR.out.low qe) bS) ?_;clear HS HB HR;rintro x24 u24 v24 Cu-HS LG rfl HR HB;replace HD:=V (HD.out.up (dK) (w1:=Cu) qe);clear LG;have akn:=HD.out.box.lt;replace HS:=jw HS;go_wp2_with fail;refine po HS HB (IE _ (HR.out.low qe)) ?_;clear HS HB HR;rintro x25 u25 v25 kN-HS Il Qo HR HB;obtain⟨qi,qg,sF,qp,qm,sG,rfl,Jt,Jv⟩:=Qo;have xc:=(HD.out.put dK (w1:=kN) qe (i:=4) bS (F2:=fun G w=>Ints G w x25.vs qi qg/\Ints G w x25.ws qp qm) ⟨Jt,Jv⟩ (Gj fP fP)).cast acw rfl;have kQ:Hid (xm w w2.heap.size x4 p4 x4.length ⟨x1,x2,x4.map (fun q=>(⟨q.1,q.2⟩:dV)),x6,kW,eQ,x25⟩ ⟨q,x4.length,c,om,oh,qf,oq,oo,qj,qi,qg,sF,qp,qm,sG⟩ (((((((kN).setCell ⟨w2.heap.size,11,U⟩ (.int .i64 x25.op)).setCell ⟨w2.heap.size,12,U⟩ (.int .i64 x25.a)).setCell ⟨w2.heap.size,13,U⟩ (.int .i64 x25.b)).setCell ⟨w2.heap.size,14,U⟩ (.int .i64 x25.n)).setCell ⟨w2.heap.size,15,U⟩ (.slice qi qg sF)).setCell ⟨w2.heap.size,16,U⟩ (.slice qp qm sG))):=V (((((((xc).set dK 11 (.int .i64 x25.op)).set dK 12 (.int .i64 x25.a)).set dK 13 (.int .i64 x25.b)).set dK 14 (.int .i64 x25.n)).set dK 15 (.slice qi qg sF)).set dK 16 (.slice qp qm sG));replace HD:=V (HD.out.up dK (w1:=kN) qe);clear Il Jt Jv xc;have y0:ae kN ⟨w2.heap.size,11,U⟩=ag (.int .i64 0):=HD.out.cell rfl;have y1:ae kN ⟨w2.heap.size,12,U⟩=ag (.int .i64 0):=HD.out.cell rfl;have y2:ae kN ⟨w2.heap.size,13,U⟩=ag (.int .i64 0):=HD.out.cell rfl;have y3:ae kN ⟨w2.heap.size,14,U⟩=ag (.int .i64 0):=HD.out.cell rfl;have y4:ae kN ⟨w2.heap.size,15,U⟩=ag (.slice U 0 0):=HD.out.cell rfl;have y5:ae kN ⟨w2.heap.size,16,U⟩=ag (.slice U 0 0):=HD.out.cell rfl;have fy:∀i,af kN ⟨w2.heap.size,i,U⟩=false:=fun i=>HD.out.ny i;have ako:=HD.out.box.lt;dsimp only [vO];go_wp2_with fail;replace HD:=kQ;clear kQ y0 y1 y2 y3 y4 y5 fy;replace HS:=mI HS;refine po HS HB (lF _ (HR.out.low qe)) ?_;clear HS HB HR;rintro OA u26 v26 ma-HS Bw rfl HR HB;replace HD:=V (HD.out.up (dK) (w1:=ma) qe);clear Bw;have Z0:=HD.out.part dK 0;have Z:=V Z0.2;have Y:Hid (bX ma w2.heap.size 194 (d_ ⟨x1,x2,x4.map (fun q=>(⟨q.1,q.2⟩:dV)),x6,kW,eQ,x25⟩ ⟨q,x4.length,c,om,oh,qf,oq,oo,qj,qi,qg,sF,qp,qm,sG⟩)):=V HD.out.box;have K2:=HD.out.off dK (z:=w.heap.size) (fun G h=>h.1) (j:=2) bS;have K3:=HD.out.off dK (z:=w.heap.size) (fun G h=>h.1) (j:=3) bS;have K4:=HD.out.off dK (z:=w.heap.size) (fun G h=>h.1) (j:=4) bS;obtain⟨p',c',e,hrw⟩:=cu.rw jd.map JZ K2 (by have:=HL.out;simp;omega);have hrw2:Rw 2 jd (fun k=>w.heap.size<=k/\¬k=w.heap.size/\¬k=w2.heap.size) ma (x4.map (fun q=>(⟨q.1,q.2⟩:dV))) q x4.length:=by
         exact atA
        have qW:∀W,bT (fun k=>w.heap.size<=k/\¬k=w.heap.size/\¬k=w2.heap.size) ma W->je (fun b=>w.heap.size<=b) W ⟨x1,x2,x4.map (fun q=>(⟨q.1,q.2⟩:dV)),x6,kW,eQ,x25⟩ (d_ ⟨x1,x2,x4.map (fun q=>(⟨q.1,q.2⟩:dV)),x6,kW,eQ,x25⟩ ⟨q,x4.length,c,om,oh,qf,oq,oo,qj,qi,qg,sF,qp,qm,sG⟩):=fun W q=>⟨_,rfl,⟨(gN (kJ jd.map) hrw2 q).mono jd.map fun b hb _=>hb.1,qO fP (gN fP K3.1 q) fun b hb=>hb.1,qO fP (gN fP K3.2 q) fun b hb=>hb.1,qO fP (gN fP K4.1 q) fun b hb=>hb.1,qO fP (gN fP K4.2 q) fun b hb=>hb.1⟩⟩
        clear Z0 K2 K3 K4 e hrw hrw2 HD;obtain⟨W,hP⟩:=jM (c:=d_ ⟨x1,x2,x4.map (fun q=>(⟨q.1,q.2⟩:dV)),x6,kW,eQ,x25⟩ ⟨q,x4.length,c,om,oh,qf,oq,oo,qj,qi,qg,sF,qp,qm,sG⟩) Z.out Bz (Du _ _) rfl;have j4:=hP.bt;have ig:=V hP.box;have j5:=hP.size;go_wp2_with (first|(refine wpList_load_row rfl 194 _ rfl _ rfl 194 _ (0,0) _ Y.out underlying194 rfl dA ?_)|(refine jN rfl 194 _ _ rfl w.heap.size _ rfl rfl hP ?_))
        have bZ:=HB.out;refine aj (v:=.agg (d_ ⟨x1,x2,x4.map (fun q=>(⟨q.1,q.2⟩:dV)),x6,kW,eQ,x25⟩ ⟨q,x4.length,c,om,oh,qf,oq,oo,qj,qi,qg,sF,qp,qm,sG⟩)) ?_ rfl (PO.ok (dD HS) qe ⟨_,rfl,qW _ qe⟩ (HR.out.low qe));exact atB
      · replace HS:=mI (yx HS i20);replace HD:=V (HD.out.up (dK) (w1:=wX) qe);replace HB:=dJ HB wX;replace HR:=V xh;clear b20 xh;clear i20;have SE:=HD.out.box.lt;go_wp2_with fail;refine po HS HB (lF _ (HR.out.low qe)) ?_;clear HS HB HR;rintro OA u26 v26 ma-HS Bw rfl HR HB;replace HD:=V (HD.out.up (dK) (w1:=ma) qe);clear Bw;have Z0:=HD.out.part dK 0;have Z:=V Z0.2;have Y:Hid (bX ma w2.heap.size 194 (d_ ⟨x1,x2,x4.map (fun q=>(⟨q.1,q.2⟩:dV)),x6,mt,zD,zD⟩ ⟨q,x4.length,c,U,0,0,U,0,0,U,0,0,U,0,0⟩)):=V HD.out.box;have K2:=HD.out.off dK (z:=w.heap.size) (fun G h=>h.1) (j:=2) bS;have K3:=HD.out.off dK (z:=w.heap.size) (fun G h=>h.1) (j:=3) bS;have K4:=HD.out.off dK (z:=w.heap.size) (fun G h=>h.1) (j:=4) bS;obtain⟨p',c',e,hrw⟩:=cu.rw jd.map JZ K2 (by have:=HL.out;simp;omega);have hrw2:Rw 2 jd (fun k=>w.heap.size<=k/\¬k=w.heap.size/\¬k=w2.heap.size) ma (x4.map (fun q=>(⟨q.1,q.2⟩:dV))) q x4.length:=by
         exact atA
        have qW:∀W,bT (fun k=>w.heap.size<=k/\¬k=w.heap.size/\¬k=w2.heap.size) ma W->je (fun b=>w.heap.size<=b) W ⟨x1,x2,x4.map (fun q=>(⟨q.1,q.2⟩:dV)),x6,mt,zD,zD⟩ (d_ ⟨x1,x2,x4.map (fun q=>(⟨q.1,q.2⟩:dV)),x6,mt,zD,zD⟩ ⟨q,x4.length,c,U,0,0,U,0,0,U,0,0,U,0,0⟩):=fun W q=>⟨_,rfl,⟨(gN (kJ jd.map) hrw2 q).mono jd.map fun b hb _=>hb.1,qO fP (gN fP K3.1 q) fun b hb=>hb.1,qO fP (gN fP K3.2 q) fun b hb=>hb.1,qO fP (gN fP K4.1 q) fun b hb=>hb.1,qO fP (gN fP K4.2 q) fun b hb=>hb.1⟩⟩
        clear Z0 K2 K3 K4 e hrw hrw2 HD;obtain⟨W,hP⟩:=jM (c:=d_ ⟨x1,x2,x4.map (fun q=>(⟨q.1,q.2⟩:dV)),x6,mt,zD,zD⟩ ⟨q,x4.length,c,U,0,0,U,0,0,U,0,0,U,0,0⟩) Z.out Bz (Du _ _) rfl;have j4:=hP.bt;have ig:=V hP.box;have j5:=hP.size;go_wp2_with (first|(refine wpList_load_row rfl 194 _ rfl _ rfl 194 _ (0,0) _ Y.out underlying194 rfl dA ?_)|(refine jN rfl 194 _ _ rfl w.heap.size _ rfl rfl hP ?_))
        have bZ:=HB.out;refine aj (v:=.agg (d_ ⟨x1,x2,x4.map (fun q=>(⟨q.1,q.2⟩:dV)),x6,mt,zD,zD⟩ ⟨q,x4.length,c,U,0,0,U,0,0,U,0,0,U,0,0⟩)) ?_ rfl (PO.ok (dD HS) qe ⟨_,rfl,qW _ qe⟩ (HR.out.low qe));exact atB
 · replace HS:=mI (yx HS i3);have HD:=V (hd1.out.up dK (w1:=w3) qe);replace HB:=dJ HB w3;replace HR:=V R3;clear b3 R3;clear i3 hd1;have hb3:=HD.out.box.lt;go_wp2_with fail;refine(dH Tj _ (HR.out.low qe) bS).mono ?_;rintro e wX ⟨b20,⟨i20,rfl,xh⟩|⟨i20,rfl,xh⟩⟩
   · replace HS:=jw (yz HS i20);replace HD:=V (HD.out.up (dK) (w1:=wX) qe);replace HB:=dJ HB wX;replace HR:=V xh;clear b20 xh;clear i20;have SE:=HD.out.box.lt;go_wp2_with fail;refine po HS HB (jK _ (HR.out.low qe)) ?_;clear HS HB HR;rintro kW u21 v21 wY-HS LD rfl HR HB;replace HD:=V (HD.out.up (dK) (w1:=wY) qe);clear LD;have akk:=HD.out.box.lt;replace HS:=jw HS;have lm:ae wY ⟨w2.heap.size,4,U⟩=ag (.string ⟨#[]⟩):=HD.out.cell rfl;have fy:∀i,af wY ⟨w2.heap.size,i,U⟩=false:=fun i=>HD.out.ny i;go_wp2_with fail;replace HD:Hid (xm w w2.heap.size [] U 0 ⟨x1,x2,[],0,kW,zD,zD⟩ ⟨U,0,0,U,0,0,U,0,0,U,0,0,U,0,0⟩ (wY.setCell ⟨w2.heap.size,4,U⟩ (.string kW))):=V (HD.out.set dK 4 (.string kW));clear lm fy;refine po HS HB (gX _ _ (HR.out.low qe) bS) ?_;clear HS HB HR;rintro x22 u22 v22 GJ-HS LF rfl HR HB;replace HD:=V (HD.out.up (dK) (w1:=GJ) qe);clear LF;have akl:=HD.out.box.lt;replace HS:=jw HS;go_wp2_with fail;refine po HS HB (IE _ (HR.out.low qe)) ?_;clear HS HB HR;rintro eQ u23 v23 eY-HS ze Qn HR HB;obtain⟨om,oh,qf,oq,oo,qj,rfl,Js,Ju⟩:=Qn;have xc:=(HD.out.put dK (w1:=eY) qe (i:=3) bS (F2:=fun G w=>Ints G w eQ.vs om oh/\Ints G w eQ.ws oq oo) ⟨Js,Ju⟩ (Gj fP fP)).cast acx rfl;have kQ:Hid (xm w w2.heap.size [] U 0 ⟨x1,x2,[],0,kW,eQ,zD⟩ ⟨U,0,0,om,oh,qf,oq,oo,qj,U,0,0,U,0,0⟩ (((((((eY).setCell ⟨w2.heap.size,5,U⟩ (.int .i64 eQ.op)).setCell ⟨w2.heap.size,6,U⟩ (.int .i64 eQ.a)).setCell ⟨w2.heap.size,7,U⟩ (.int .i64 eQ.b)).setCell ⟨w2.heap.size,8,U⟩ (.int .i64 eQ.n)).setCell ⟨w2.heap.size,9,U⟩ (.slice om oh qf)).setCell ⟨w2.heap.size,10,U⟩ (.slice oq oo qj))):=V (((((((xc).set dK 5 (.int .i64 eQ.op)).set dK 6 (.int .i64 eQ.a)).set dK 7 (.int .i64 eQ.b)).set dK 8 (.int .i64 eQ.n)).set dK 9 (.slice om oh qf)).set dK 10 (.slice oq oo qj));replace HD:=V (HD.out.up dK (w1:=eY) qe);clear ze Js Ju xc;have y0:ae eY ⟨w2.heap.size,5,U⟩=ag (.int .i64 0):=HD.out.cell rfl;have y1:ae eY ⟨w2.heap.size,6,U⟩=ag (.int .i64 0):=HD.out.cell rfl;have y2:ae eY ⟨w2.heap.size,7,U⟩=ag (.int .i64 0):=HD.out.cell rfl;have y3:ae eY ⟨w2.heap.size,8,U⟩=ag (.int .i64 0):=HD.out.cell rfl;have y4:ae eY ⟨w2.heap.size,9,U⟩=ag (.slice U 0 0):=HD.out.cell rfl;have y5:ae eY ⟨w2.heap.size,10,U⟩=ag (.slice U 0 0):=HD.out.cell rfl;have fy:∀i,af eY ⟨w2.heap.size,i,U⟩=false:=fun i=>HD.out.ny i;have akm:=HD.out.box.lt;dsimp only [vO];go_wp2_with fail;replace HD:=kQ;clear kQ y0 y1 y2 y3 y4 y5 fy;replace HS:=jw HS;refine po HS HB (gX _ _ (HR.out.low qe) bS) ?_;clear HS HB HR;rintro x24 u24 v24 Cu-HS LG rfl HR HB;replace HD:=V (HD.out.up (dK) (w1:=Cu) qe);clear LG;have akn:=HD.out.box.lt;replace HS:=jw HS;go_wp2_with fail;refine po HS HB (IE _ (HR.out.low qe)) ?_;clear HS HB HR;rintro x25 u25 v25 kN-HS Il Qo HR HB;obtain⟨qi,qg,sF,qp,qm,sG,rfl,Jt,Jv⟩:=Qo;have xc:=(HD.out.put dK (w1:=kN) qe (i:=4) bS (F2:=fun G w=>Ints G w x25.vs qi qg/\Ints G w x25.ws qp qm) ⟨Jt,Jv⟩ (Gj fP fP)).cast acw rfl;have kQ:Hid (xm w w2.heap.size [] U 0 ⟨x1,x2,[],0,kW,eQ,x25⟩ ⟨U,0,0,om,oh,qf,oq,oo,qj,qi,qg,sF,qp,qm,sG⟩ (((((((kN).setCell ⟨w2.heap.size,11,U⟩ (.int .i64 x25.op)).setCell ⟨w2.heap.size,12,U⟩ (.int .i64 x25.a)).setCell ⟨w2.heap.size,13,U⟩ (.int .i64 x25.b)).setCell ⟨w2.heap.size,14,U⟩ (.int .i64 x25.n)).setCell ⟨w2.heap.size,15,U⟩ (.slice qi qg sF)).setCell ⟨w2.heap.size,16,U⟩ (.slice qp qm sG))):=V (((((((xc).set dK 11 (.int .i64 x25.op)).set dK 12 (.int .i64 x25.a)).set dK 13 (.int .i64 x25.b)).set dK 14 (.int .i64 x25.n)).set dK 15 (.slice qi qg sF)).set dK 16 (.slice qp qm sG));replace HD:=V (HD.out.up dK (w1:=kN) qe);clear Il Jt Jv xc;have y0:ae kN ⟨w2.heap.size,11,U⟩=ag (.int .i64 0):=HD.out.cell rfl;have y1:ae kN ⟨w2.heap.size,12,U⟩=ag (.int .i64 0):=HD.out.cell rfl;have y2:ae kN ⟨w2.heap.size,13,U⟩=ag (.int .i64 0):=HD.out.cell rfl;have y3:ae kN ⟨w2.heap.size,14,U⟩=ag (.int .i64 0):=HD.out.cell rfl;have y4:ae kN ⟨w2.heap.size,15,U⟩=ag (.slice U 0 0):=HD.out.cell rfl;have y5:ae kN ⟨w2.heap.size,16,U⟩=ag (.slice U 0 0):=HD.out.cell rfl;have fy:∀i,af kN ⟨w2.heap.size,i,U⟩=false:=fun i=>HD.out.ny i;have ako:=HD.out.box.lt;dsimp only [vO];go_wp2_with fail;replace HD:=kQ;clear kQ y0 y1 y2 y3 y4 y5 fy;replace HS:=mI HS;refine po HS HB (lF _ (HR.out.low qe)) ?_;clear HS HB HR;rintro OA u26 v26 ma-HS Bw rfl HR HB;replace HD:=V (HD.out.up (dK) (w1:=ma) qe);clear Bw;have Z0:=HD.out.part dK 0;have Z:=V Z0.2;have Y:Hid (bX ma w2.heap.size 194 (d_ ⟨x1,x2,[],0,kW,eQ,x25⟩ ⟨U,0,0,om,oh,qf,oq,oo,qj,qi,qg,sF,qp,qm,sG⟩)):=V HD.out.box;have K2:=HD.out.off dK (z:=w.heap.size) (fun G h=>h.1) (j:=2) bS;have K3:=HD.out.off dK (z:=w.heap.size) (fun G h=>h.1) (j:=3) bS;have K4:=HD.out.off dK (z:=w.heap.size) (fun G h=>h.1) (j:=4) bS;obtain⟨p',c',e,hrw⟩:=cu.rw jd.map JZ K2 cz;have hrw2:Rw 2 jd (fun k=>w.heap.size<=k/\¬k=w.heap.size/\¬k=w2.heap.size) ma ([]) U 0:=by
      exact atA
     have qW:∀W,bT (fun k=>w.heap.size<=k/\¬k=w.heap.size/\¬k=w2.heap.size) ma W->je (fun b=>w.heap.size<=b) W ⟨x1,x2,[],0,kW,eQ,x25⟩ (d_ ⟨x1,x2,[],0,kW,eQ,x25⟩ ⟨U,0,0,om,oh,qf,oq,oo,qj,qi,qg,sF,qp,qm,sG⟩):=fun W q=>⟨_,rfl,⟨(gN (kJ jd.map) hrw2 q).mono jd.map fun b hb _=>hb.1,qO fP (gN fP K3.1 q) fun b hb=>hb.1,qO fP (gN fP K3.2 q) fun b hb=>hb.1,qO fP (gN fP K4.1 q) fun b hb=>hb.1,qO fP (gN fP K4.2 q) fun b hb=>hb.1⟩⟩
     clear Z0 K2 K3 K4 e hrw hrw2 HD;obtain⟨W,hP⟩:=jM (c:=d_ ⟨x1,x2,[],0,kW,eQ,x25⟩ ⟨U,0,0,om,oh,qf,oq,oo,qj,qi,qg,sF,qp,qm,sG⟩) Z.out Bz (Du _ _) rfl;have j4:=hP.bt;have ig:=V hP.box;have j5:=hP.size;go_wp2_with (first|(refine wpList_load_row rfl 194 _ rfl _ rfl 194 _ (0,0) _ Y.out underlying194 rfl dA ?_)|(refine jN rfl 194 _ _ rfl w.heap.size _ rfl rfl hP ?_))
     have bZ:=HB.out;refine aj (v:=.agg (d_ ⟨x1,x2,[],0,kW,eQ,x25⟩ ⟨U,0,0,om,oh,qf,oq,oo,qj,qi,qg,sF,qp,qm,sG⟩)) ?_ rfl (PO.ok (dD HS) qe ⟨_,rfl,qW _ qe⟩ (HR.out.low qe));exact atB
   · replace HS:=mI (yx HS i20);replace HD:=V (HD.out.up (dK) (w1:=wX) qe);replace HB:=dJ HB wX;replace HR:=V xh;clear b20 xh;clear i20;have SE:=HD.out.box.lt;go_wp2_with fail;refine po HS HB (lF _ (HR.out.low qe)) ?_;clear HS HB HR;rintro OA u26 v26 ma-HS Bw rfl HR HB;replace HD:=V (HD.out.up (dK) (w1:=ma) qe);clear Bw;have Z0:=HD.out.part dK 0;have Z:=V Z0.2;have Y:Hid (bX ma w2.heap.size 194 (d_ ⟨x1,x2,[],0,mt,zD,zD⟩ ⟨U,0,0,U,0,0,U,0,0,U,0,0,U,0,0⟩)):=V HD.out.box;have K2:=HD.out.off dK (z:=w.heap.size) (fun G h=>h.1) (j:=2) bS;have K3:=HD.out.off dK (z:=w.heap.size) (fun G h=>h.1) (j:=3) bS;have K4:=HD.out.off dK (z:=w.heap.size) (fun G h=>h.1) (j:=4) bS;obtain⟨p',c',e,hrw⟩:=cu.rw jd.map JZ K2 cz;have hrw2:Rw 2 jd (fun k=>w.heap.size<=k/\¬k=w.heap.size/\¬k=w2.heap.size) ma ([]) U 0:=by
      exact atA
     have qW:∀W,bT (fun k=>w.heap.size<=k/\¬k=w.heap.size/\¬k=w2.heap.size) ma W->je (fun b=>w.heap.size<=b) W ⟨x1,x2,[],0,mt,zD,zD⟩ (d_ ⟨x1,x2,[],0,mt,zD,zD⟩ ⟨U,0,0,U,0,0,U,0,0,U,0,0,U,0,0⟩):=fun W q=>⟨_,rfl,⟨(gN (kJ jd.map) hrw2 q).mono jd.map fun b hb _=>hb.1,qO fP (gN fP K3.1 q) fun b hb=>hb.1,qO fP (gN fP K3.2 q) fun b hb=>hb.1,qO fP (gN fP K4.1 q) fun b hb=>hb.1,qO fP (gN fP K4.2 q) fun b hb=>hb.1⟩⟩
     clear Z0 K2 K3 K4 e hrw hrw2 HD;obtain⟨W,hP⟩:=jM (c:=d_ ⟨x1,x2,[],0,mt,zD,zD⟩ ⟨U,0,0,U,0,0,U,0,0,U,0,0,U,0,0⟩) Z.out Bz (Du _ _) rfl;have j4:=hP.bt;have ig:=V hP.box;have j5:=hP.size;go_wp2_with (first|(refine wpList_load_row rfl 194 _ rfl _ rfl 194 _ (0,0) _ Y.out underlying194 rfl dA ?_)|(refine jN rfl 194 _ _ rfl w.heap.size _ rfl rfl hP ?_))
     have bZ:=HB.out;refine aj (v:=.agg (d_ ⟨x1,x2,[],0,mt,zD,zD⟩ ⟨U,0,0,U,0,0,U,0,0,U,0,0,U,0,0⟩)) ?_ rfl (PO.ok (dD HS) qe ⟨_,rfl,qW _ qe⟩ (HR.out.low qe));exact atB
end
end Ps
namespace Md
open Go.RowKit Go.Maps
open Sm (dQ tF kV)
attribute [local go_sem] X4 Q0 Q3 agG Xv
theorem iJ.lt {b:Nat} {acc:List ByteArray} {w:ah} (h:iJ b acc w):b<w.heap.size:=by
 obtain⟨es,clock,hb,-⟩:=h;exact(Array.getElem?_eq_some_iff.1 hb).1
def Step (b:Nat) (r:Int×List ByteArray) (w:ah) (e:Ending) (w':ah):Prop:=e=.returned (.int .i64 r.1)/\iJ b r.2 w'/\But b w w'
theorem UB (acc:List ByteArray) (p:ByteArray×Int):eP acc p=(dQ (jE acc p.1) p.2,jm acc p.1):=rfl
theorem atC {p:Prop} (h:p:=by
 go_wp2_with fail;go_ret;exact⟨rfl,HS2.out,(But.of bl).trans HB2.out⟩
 ):p:=h
theorem auy {p:Prop} (h:p:=by
 go_enter func52,ntmps52;go_wp2_with fail;refine(CD.out _ (HS.out.on bl)).mono ?_;rintro e w2 ⟨rfl,hs2,hb2⟩;have HS2:=V hs2;have HB2:=V hb2;have q:=((FX.out _ (Below.refl _ _)).but hb2 (by have:=nK.out;omega))
 have c1:=q.get (Q0 x);have c2:=q.get (Q3 x);clear hs2 hb2 q;go_wp2_with fail;refine(CT.out _).mono ?_;rintro e w3 ⟨rfl,rfl⟩;go_wp2_with fail;refine(CF.out _).mono ?_;rintro e w3 ⟨rfl,rfl⟩;exact atC
 ):p:=h
theorem auA {p:Prop} (h:p:=by
 go_wp2_with fail;refine(CD.out _ (HS.out.on bl)).mono ?_;rintro e w2 ⟨rfl,hs2,hb2⟩;have HS2:=V hs2;have HB2:=V hb2;clear hs2 hb2;exact atC
 ):p:=h
theorem ahI (x:Val) (b:Nat) (acc:List ByteArray) (w:ah) (hS:iJ b acc w) (hn:acc.length<=100000) (hx:x.nm.size<=9223372036854775807):Calls ai 52 #[.map (ag b),.agg (ni x)] w (Step b (eP acc (EK x)) w):=by
 have HS:=V hS;have FX:=far (w:=w) 103 (ni x);have nK:=V hS.lt;rw[UB]
 show Calls _ _ _ _ (Step b (dQ (jE acc x.nm) (EL x),jm acc x.nm) w)
 obtain⟨za,h2⟩:∃a,jm acc x.nm=a:=⟨_,rfl⟩
 obtain⟨v,hv⟩:∃v,jE acc x.nm=v:=⟨_,rfl⟩
 rw[h2,hv];have CD:=V (fun W (hW:iJ b acc W)=>BD hv h2 W hW hn hx);clear hS hv h2;by_cases hv0:v=0;rotate_left 1
 · rw[tF hv0];have t1:(v != 0)=true:=bne_iff_ne.2 hv0;go_enter func52,ntmps52;exact auA
 subst hv0;rw[kV];obtain⟨ty,hty⟩:∃t,typ x.ty=t:=⟨_,rfl⟩
 obtain⟨ft,hft⟩:∃t,fits x.ty x.n=t:=⟨_,rfl⟩
 have HV:=V (show EL x=if ty then (if ft then 0 else 2) else 1 by unfold EL;rw[hty,hft]);have CT:=V (fun W=>(show Calls ai 92 #[.int .i64 x.ty] W (oW (.bool ty) W) by rw[← hty];exact aaI _ W));have CF:=V (fun W=>(show Calls ai 93 #[.int .i64 x.ty,.int .i64 x.n] W (oW (.bool ft) W) by rw[← hft];exact ZA _ _ W));clear hty hft
 cases ty with
 | false=>
  rw[show EL x=1 from HV.out];go_enter func52,ntmps52;go_wp2_with fail;refine(CD.out _ (HS.out.on bl)).mono ?_;rintro e w2 ⟨rfl,hs2,hb2⟩;have HS2:=V hs2;have HB2:=V hb2;have q:=((FX.out _ (Below.refl _ _)).but hb2 (by have:=nK.out;omega))
  have c1:=q.get (Q0 x);have c2:=q.get (Q3 x);clear hs2 hb2 q;go_wp2_with fail;refine(CT.out _).mono ?_;rintro e w3 ⟨rfl,rfl⟩;exact atC
 | true=>
  cases ft with
  | false=>
   rw[show EL x=2 from HV.out];exact auy
  | true=>
   rw[show EL x=0 from HV.out];exact auy
theorem auz {p:Prop} (h:p:=by
 go_enter func192,ntmps192;go_wp2_with fail;refine(CD.out _ (HS.out.on bl)).mono ?_;rintro e w2 ⟨rfl,hs2,hb2⟩;have HS2:=V hs2;have HB2:=V hb2;have q:=((FX.out _ (Below.refl _ _)).but hb2 (by have:=nK.out;omega))
 have c1:=q.get (Xv x);clear hs2 hb2 q;go_wp2_with fail;refine(CT.out _).mono ?_;rintro e w3 ⟨rfl,rfl⟩;exact atC
 ):p:=h
theorem ahw (x:eZ) (b:Nat) (acc:List ByteArray) (w:ah) (hS:iJ b acc w) (hn:acc.length<=100000) (hx:x.nm.size<=9223372036854775807):Calls ai 192 #[.map (ag b),.agg (iy x)] w (Step b (eP acc (IW x)) w):=by
 have HS:=V hS;have FX:=far (w:=w) 239 (iy x);have nK:=V hS.lt;rw[UB]
 show Calls _ _ _ _ (Step b (dQ (jE acc x.nm) (FR x),jm acc x.nm) w)
 obtain⟨za,h2⟩:∃a,jm acc x.nm=a:=⟨_,rfl⟩
 obtain⟨v,hv⟩:∃v,jE acc x.nm=v:=⟨_,rfl⟩
 rw[h2,hv];have CD:=V (fun W (hW:iJ b acc W)=>BD hv h2 W hW hn hx);clear hS hv h2;by_cases hv0:v=0;rotate_left 1
 · rw[tF hv0];have t1:(v != 0)=true:=bne_iff_ne.2 hv0;go_enter func192,ntmps192;exact auA
 subst hv0;rw[kV];obtain⟨ty,hty⟩:∃t,typ x.ty=t:=⟨_,rfl⟩
 have HV:=V (show FR x=if ty then 0 else 1 by unfold FR;rw[hty]);have CT:=V (fun W=>(show Calls ai 92 #[.int .i64 x.ty] W (oW (.bool ty) W) by rw[← hty];exact aaI _ W));clear hty
 cases ty with
 | false=>
  rw[show FR x=1 from HV.out];exact auz
 | true=>
  rw[show FR x=0 from HV.out];exact auz
end Md
end Go.Proofs.YthnillhnjhalmaaGreatDoor
