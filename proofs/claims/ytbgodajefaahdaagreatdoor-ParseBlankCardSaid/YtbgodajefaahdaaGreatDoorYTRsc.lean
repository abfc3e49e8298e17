/-
  Parts of this proof: The contract of the reader's resource. How lists of statements among the arguments are . How models among the arguments are read, and wha. A model among the arguments. How much is read of models.
-/
import Derived.Test.YtbgodajefaahdaaGreatDoorYTStmts
import Derived.JoinedCond
import Derived.Test.YtbgodajefaahdaaGreatDoorYQSic
open Option renaming none->V,some->ah
open Nat renaming le_trans->ae
open Go.World renaming cell?->af,frozen?->ag
open Go.Lib renaming hid->X
open Go.RowKit renaming Hid->ai
set_option linter.unusedVariables false
open Go.Lib (hid)
namespace Go.Proofs.YtbgodajefaahdaaGreatDoor
namespace Ps
open Go.RowKit
open Lx (Tk mt)
open Sm (Dt Ints zD)
open Md (Rw At bT dm eO dI Ee Cc iV dQ zf iU)
set_option maxHeartbeats 2000000
theorem rA {F:(Nat->Prop)->World->Prop} (hm:Mv F) {G H:Nat->Prop} {w:World} (h:F G w) (hk:∀b,G b->H b):F H w:=hm (Nat.le_refl _) (fun b hb _=>⟨hk b hb,rfl⟩) h
theorem fO {l:List Int} {p:Option Addr} {m:Nat}:Mv (fun G w=>Ints G w l p m):=fun hs hk h=>Sm.Ints.map hs hk h
def zK (z:Nat) (zc:Array Value) (pr:List (Int×Int)) (pp:Option Addr) (pm:Nat) (v:Value) (l:List dQ) (u:Dt) (a:Option Addr) (am:Nat) (b:Option Addr) (bm:Nat) (d:Dt) (e:Option Addr) (em:Nat) (f:Option Addr) (fm:Nat):Nat->(Nat->Prop)->World->Prop
 | 0=>fun G w=>G z/\bT w z 111 zc
 | 1=>fun G w=>Rw 2 lq G w pr pp pm
 | 2=>fun G w=>bZ 177 2 iU G w v l
 | 3=>fun G w=>Ints G w u.vs a am/\Ints G w u.ws b bm
 | 4=>fun G w=>Ints G w d.vs e em/\Ints G w d.ws f fm
 | _+5=>fun _ _=>True
section
variable {z:Nat} {zc:Array Value} {pr pr':List (Int×Int)} {pp pp':Option Addr} {pm pm':Nat} {v v':Value} {l l':List dQ} {u u':Dt} {a a':Option Addr} {am Zd:Nat} {b b':Option Addr} {bm Ja:Nat} {d d':Dt} {e e':Option Addr} {em em':Nat} {f f':Option Addr} {fm fm':Nat}
theorem dO:∀j,Mv (zK z zc pr pp pm v l u a am b bm d e em f fm j)
 | 0=>zA
 | 1=>kX lq.map
 | 2=>pY iU.map
 | 3=>GN fO fO
 | 4=>GN fO fO
 | _+5=>Kr
theorem aqu:∀j G W,(if j=1 then fun G w=>Rw 2 lq G w pr' pp' pm' else zK z zc pr pp pm v l u a am b bm d e em f fm j) G W->zK z zc pr' pp' pm' v l u a am b bm d e em f fm j G W
 | 0,_,_,h=>h
 | 1,_,_,h=>h
 | 2,_,_,h=>h
 | 3,_,_,h=>h
 | 4,_,_,h=>h
 | _+5,_,_,h=>trivial
theorem aqv:∀j G W,(if j=2 then fun G w=>bZ 177 2 iU G w v' l' else zK z zc pr pp pm v l u a am b bm d e em f fm j) G W->zK z zc pr pp pm v' l' u a am b bm d e em f fm j G W
 | 0,_,_,h=>h
 | 1,_,_,h=>h
 | 2,_,_,h=>h
 | 3,_,_,h=>h
 | 4,_,_,h=>h
 | _+5,_,_,h=>trivial
theorem aeL:∀j G W,(if j=3 then fun G w=>Ints G w u'.vs a' Zd/\Ints G w u'.ws b' Ja else zK z zc pr pp pm v l u a am b bm d e em f fm j) G W->zK z zc pr pp pm v l u' a' Zd b' Ja d e em f fm j G W
 | 0,_,_,h=>h
 | 1,_,_,h=>h
 | 2,_,_,h=>h
 | 3,_,_,h=>h
 | 4,_,_,h=>h
 | _+5,_,_,h=>trivial
theorem aeK:∀j G W,(if j=4 then fun G w=>Ints G w d'.vs e' em'/\Ints G w d'.ws f' fm' else zK z zc pr pp pm v l u a am b bm d e em f fm j) G W->zK z zc pr pp pm v l u a am b bm d' e' em' f' fm' j G W
 | 0,_,_,h=>h
 | 1,_,_,h=>h
 | 2,_,_,h=>h
 | 3,_,_,h=>h
 | 4,_,_,h=>h
 | _+5,_,_,h=>trivial
end
abbrev xR (w:World) (B:Nat) (pr:List (Int×Int)) (pp:Option Addr) (pm:Nat) (x:dm) (P:eO) (W:World):Prop:=g_ w.heap.size B 111 (dI x P) (zK w.heap.size #[.string ⟨#[]⟩,.int .i64 0,.slice V 0 0,.int .i64 0,.string ⟨#[]⟩,.int .i64 0,.int .i64 0,.int .i64 0,.int .i64 0,.slice V 0 0,.slice V 0 0,.int .i64 0,.int .i64 0,.int .i64 0,.int .i64 0,.slice V 0 0,.slice V 0 0] pr pp pm (.slice P.yE P.Bq P.zR) x.sh x.up P.tu P.sZ P.tF P.tC x.dn P.rW P.rV P.rY P.rX) W
structure aic (g:Nat) (nm:ByteArray) (un:Int) (B:Nat) (l:List (Int×Int)) (p:Option Addr) (w0 w:World) (n:Nat) (v:Value) (wr:World):Prop where
 ex:∃k q c,k+n=l.length/\v=.int .i64 ((k:Nat):Int)/\xR w0 B l p l.length ⟨nm,un,(l.take k).map (fun q=>⟨q.1,q.2⟩),0,mt,zD,zD⟩ ⟨q,k,c,V,0,0,V,0,0,V,0,0,V,0,0⟩ wr
 eq:bR (fun b=>b<w0.heap.size) w wr
section
variable {L:Lk} {g:Nat} {t:List Tk}
theorem pG {p:Prop} (h:p:=by
 have bU:=HB.out;go_wp2_with fail;exact⟨rfl,PO.no (dJ HS (by assumption)) qe⟩
 ):p:=h
theorem QT {p:Prop} (h:p:=by
 have e2:=e;simp only[Value.slice.injEq] at e2;obtain⟨e3,e4,e5⟩:=e2;rw[← e3,← e4] at hrw;exact hrw
 ):p:=h
theorem QU {p:Prop} (h:p:=by
 exact results_cell_row rfl _ _ w.heap.size 111 _ (0,0) _ rfl eT.out Tryz.underlying111 rfl (by kernel_rfl)
 ):p:=h
set_option maxRecDepth 100000 in
theorem ap8 (w:World) (hR:Rd L g t w):Calls Tryz.prog 152 #[.pointer (ah ⟨g,0,V⟩)] w (PO L g (VR iV) (run gq t) w):=by
 obtain⟨r,hr⟩:∃r,run gq t=r:=⟨_,rfl⟩
 rw[hr];have HS:=X hr;have hg:=hR.blk;have HR:=X hR;have HB:ai (Bt g w w):=X (bR.refl _ _);clear hR hr;have Z:=X (bT.new (w:=w) (t:=111) (c:=#[.string ⟨#[]⟩,.int .i64 0,.slice V 0 0,.int .i64 0,.string ⟨#[]⟩,.int .i64 0,.int .i64 0,.int .i64 0,.int .i64 0,.slice V 0 0,.slice V 0 0,.int .i64 0,.int .i64 0,.int .i64 0,.int .i64 0,.slice V 0 0,.slice V 0 0]));go_enter Tryz.func152,Tryz.ntmps152;go_wp2_with fail;refine(jR _ (HR.out.low qe)).mono ?_;rintro e w1 h1;rcases h1.cases with⟨x1,u1,v1,r1,rfl,b1,V1,R1⟩|⟨u1,r1,rfl,b1⟩
 rotate_left 1
 · exact pG
 replace HS:=bY HS r1;replace Z:=X (bS (w2:=w1) Z.out qe);replace HB:ai (Bt g w w1):=X qh;replace HR:=X R1;clear b1 R1;clear r1 h1;obtain rfl:=V1;have hz1:=Z.out.lt;go_wp2_with fail;refine(mh _ (HR.out.low qe)).mono ?_;rintro e w2 h2;rcases h2.cases with⟨x2,u2,v2,r2,rfl,b2,V2,R2⟩|⟨u2,r2,rfl,b2⟩
 rotate_left 1
 · exact pG
 replace HS:=bY HS r2;replace Z:=X (bS (w2:=w2) Z.out qe);replace HB:ai (Bt g w w2):=X qh;replace HR:=X R2;clear b2 R2;clear r2 h2;obtain⟨rfl,n0,n1⟩:=V2;have hz2:=Z.out.lt;have hd1:ai (xR w w2.heap.size [] V 0 ⟨x1,x2,[],0,mt,zD,zD⟩ ⟨V,0,0,V,0,0,V,0,0,V,0,0,V,0,0⟩ (w2.alloc (.cells (dI ⟨x1,x2,[],0,mt,zD,zD⟩ ⟨V,0,0,V,0,0,V,0,0,V,0,0,V,0,0⟩) 111))):=X (g_.new bT.new (Nat.le_of_lt hz2) ⟨⟨Nat.le_refl _,by omega⟩,bS Z.out qe⟩ zA fun j hj G=>(match j,hj with|1,_=>Rw.nil|2,_=>bZ.nil|3,_=>⟨nA,nA⟩|4,_=>⟨nA,nA⟩|n+5,_=>trivial));clear Z;go_wp2_with (refine afH 111 17 Cc.2 rfl _ _ rfl _ (dI ⟨x1,x2,[],0,mt,zD,zD⟩ ⟨V,0,0,V,0,0,V,0,0,V,0,0,V,0,0⟩) rfl rfl rfl rfl (Ee _ _) ?_)
 refine(dL UA _ (HR.out.low qe) (by decide)).mono ?_;rintro e w3 ⟨b3,⟨i3,rfl,R3⟩|⟨i3,rfl,R3⟩⟩
 · replace HS:=jG (yI HS i3);have HD:=X (hd1.out.up dO (w1:=w3) qe);have hl3:ai (∀x v,run yD u2.tail=.ok x v->x.length<=30000):=X (aey (s:=UA) HR.out.gd HR.out.small i3);replace HB:ai (Bt g w w3):=X qh;replace HR:=X R3;clear b3 R3;clear i3 hd1;have hb3:=HD.out.box.lt;go_wp2_with fail;refine(aen _ (HR.out.low qe)).mono ?_;rintro e w4 h4;rcases h4.cases with⟨x4,u4,v4,r4,rfl,b4,V4,R4⟩|⟨u4,r4,rfl,b4⟩
   rotate_left 1
   · exact pG
   have BP:=X (hl3.out _ _ r4);replace HS:=jG (bY HS r4);obtain⟨p4,m4,c4,rfl,k4⟩:=V4;obtain rfl:x4.length=m4:=k4.1;have HD4:ai (xR w w2.heap.size x4 p4 x4.length ⟨x1,x2,[],0,mt,zD,zD⟩ ⟨V,0,0,V,0,0,V,0,0,V,0,0,V,0,0⟩ w4):=X ((HD.out.put dO (w1:=w4) qe (i:=1) (by decide) (F2:=fun G w=>Rw 2 lq G w x4 p4 x4.length) k4 (kX lq.map)).cast aqu rfl);replace HB:ai (Bt g w w4):=X qh;replace HR:=X R4;clear b4 R4;clear r4 h4 hl3 k4 HD;have hb4:=HD4.out.box.lt;go_wp2_with fail;go_loopg [16] x4.length (aic g x1 x2 w2.heap.size x4 p4 w w4)
   case atStart=>exact⟨⟨0,V,0,by omega,rfl,HD4.out⟩,bR.refl _ _⟩
   case round=>
    obtain⟨⟨k,q,c,hk,rfl,hd⟩,hq⟩:=hrel;have hlen:=BP.out;have hbr:=hd.box.lt;by_cases hkl:k<x4.length
    · have hpr:=hd.part dO 1;obtain⟨pb,o,rfl,hpb,hlt,hcc⟩:=Rw.rows hpr (by omega);obtain⟨cc,hc1,hc2,hc3⟩:=hcc.out k hkl;have hc3:cc=tV x4[k]:=hc3;subst hc3;obtain⟨⟨a,b⟩,hab⟩:∃q,x4[k]=q:=⟨_,rfl⟩
      rw[hab] at hc2;have hcw:At wr pb (o+k*2) #[.int .i64 a,.int .i64 b]:=hc2;have q0:wr.cell? ⟨pb,o+k*2,V⟩=ah (.int .i64 a):=by have:=hcw.get (r:=0) rfl;rwa [Nat.add_zero] at this
      have q1:wr.cell? ⟨pb,o+k*2+1,V⟩=ah (.int .i64 b):=hcw.get (r:=1) rfl;have k0:(0:Int)<=(k:Int):=by omega
      have k1:(k:Int)<(x4.length:Int):=by omega
      have k2:decide ((k:Int)<(x4.length:Int))=true:=decide_eq_true k1;have hw:IntKind.i64.wrap ((k:Int)+1)=((k+1:Nat):Int):=by rw[IntKind.wrap_i64];omega
      have e1:(wr.alloc (.cells #[.int .i64 a,.int .i64 b] 249)).heap.size=wr.heap.size+1:=by simp
      have el:((x4.take k).map (fun q=>(⟨q.1,q.2⟩:dQ))).length=k:=by simp;omega
      obtain⟨v5,w5,hrun,hform,k5,f5,D5,q5⟩:=hd.push amC iU.map KJ dO (w1:=wr.alloc (.cells #[.int .i64 a,.int .i64 b] 249)) qe (i:=2) rfl (by decide) rfl (y:=(⟨a,b⟩:dQ)) (ce:=zf ⟨a,b⟩) rfl (by rw[el];omega);rw[el] at hform;obtain⟨p5,n5,rfl⟩:=hform;rw[e1] at hrun;have b5:bT (wr.alloc (.cells #[.int .i64 a,.int .i64 b] 249)) wr.heap.size 249 #[.int .i64 a,.int .i64 b]:=bT.new;have lm:af (wr.alloc (.cells #[.int .i64 a,.int .i64 b] 249)) ⟨w2.heap.size,2,V⟩=ah (.slice q k c):=(fA hd.box (S:=fun k=>k=w2.heap.size) qe rfl).get rfl;have f0:af _ ⟨wr.heap.size,0,V⟩=ah (.int .i64 a):=b5.get rfl;have f1:af _ ⟨wr.heap.size,1,V⟩=ah (.int .i64 b):=b5.get rfl;have HX:ai (xR w w2.heap.size x4 (ah ⟨pb,o,V⟩) x4.length ⟨x1,x2,(x4.take (k+1)).map (fun q=>(⟨q.1,q.2⟩:dQ)),0,mt,zD,zD⟩ ⟨p5,k+1,n5,V,0,0,V,0,0,V,0,0,V,0,0⟩ (w5.setCell ⟨w2.heap.size,2,V⟩ (.slice p5 (k+1) n5))/\bR (fun b=>b<w.heap.size) w4 (w5.setCell ⟨w2.heap.size,2,V⟩ (.slice p5 (k+1) n5))):=X ⟨by rw[WK _ hkl,hab];exact D5.cast aqv rfl,bR.call (S':=fun k=>k<w.heap.size) hq.alloc q5 (fun k _ h=>h)⟩;dsimp only [zf] at hrun;clear hd hq hpr hcc hc1 hc2 hcw b5 D5 q5 HS HB HR;go_wp2_with (at_builtin;refine Lib.wpList_append_run _ rfl _ _ _ _ rfl _ _ rfl rfl _ _ hrun ?_)
      go_roundg (gk-1)
      case measure=>omega
      case rel=>exact⟨⟨k+1,p5,n5,by omega,rfl,HX.out.1⟩,HX.out.2⟩
    · obtain rfl:k=x4.length:=by omega
      rw[List.take_length] at hd;have HD:=X hd;have HL:=X hlen;have k2:decide ((x4.length:Int)<(x4.length:Int))=false:=decide_eq_false (by omega);have k3:¬((x4.length:Int)<(x4.length:Int)):=by omega
      replace HB:ai (Bt g w wr):=X (by have bU:=HB.out;exact bU.call hq (by intro k hk _;exact hk));replace HR:ai (Rd L g u4 wr):=X (HR.out.low (hq.mono fun k _ hk=>by have hk':k<=g:=hk;omega));clear hd hq hk hkl HD4 hlen BP;go_wp2_with fail;refine(gW _ _ (HR.out.low qe) (by decide)).mono ?_;rintro e w5 h5;rcases h5.cases with⟨x5,u5,v5,r5,rfl,b5,V5,R5⟩|⟨u5,r5,rfl,b5⟩
      rotate_left 1
      · exact pG
      replace HS:=bY HS r5;replace HD:=X (HD.out.up (dO) (w1:=w5) qe);replace HB:ai (Bt g w w5):=X qh;replace HR:=X R5;clear b5 R5;clear r5 h5;obtain rfl:=V5;replace HS:=jG HS;have hb5:=HD.out.box.lt;go_wp2_with fail;refine(mh _ (HR.out.low qe)).mono ?_;rintro e w6 h6;rcases h6.cases with⟨x6,u6,v6,r6,rfl,b6,V6,R6⟩|⟨u6,r6,rfl,b6⟩
      rotate_left 1
      · exact pG
      replace HS:=bY HS r6;replace HD:=X (HD.out.up (dO) (w1:=w6) qe);replace HB:ai (Bt g w w6):=X qh;replace HR:=X R6;clear b6 R6;clear r6 h6;obtain⟨rfl,n2,n3⟩:=V6;replace HS:=nJ HS;have hb6:=HD.out.box.lt;have lm:af w6 ⟨w2.heap.size,3,V⟩=ah (.int .i64 0):=HD.out.cell rfl;have fy:∀i,ag w6 ⟨w2.heap.size,i,V⟩=false:=fun i=>HD.out.tZ i;go_wp2_with fail;replace HD:ai (xR w w2.heap.size x4 p4 x4.length ⟨x1,x2,x4.map (fun q=>(⟨q.1,q.2⟩:dQ)),x6,mt,zD,zD⟩ ⟨q,x4.length,c,V,0,0,V,0,0,V,0,0,V,0,0⟩ (w6.setCell ⟨w2.heap.size,3,V⟩ (.int .i64 x6))):=X (HD.out.set dO 3 (.int .i64 x6));clear lm fy;refine(dL Uv _ (HR.out.low qe) (by decide)).mono ?_;rintro e BA ⟨b20,⟨i20,rfl,xP⟩|⟨i20,rfl,xP⟩⟩
      · replace HS:=jG (yI HS i20);replace HD:=X (HD.out.up (dO) (w1:=BA) qe);replace HB:ai (Bt g w BA):=X qh;replace HR:=X xP;clear b20 xP;clear i20;have Ua:=HD.out.box.lt;go_wp2_with fail;refine(jR _ (HR.out.low qe)).mono ?_;rintro e yQ h21;rcases h21.cases with⟨nY,u21,v21,EU,rfl,I4,RO,IL⟩|⟨u21,EU,rfl,I4⟩
        rotate_left 1
        · exact pG
        replace HS:=bY HS EU;replace HD:=X (HD.out.up (dO) (w1:=yQ) qe);replace HB:ai (Bt g w yQ):=X qh;replace HR:=X IL;clear I4 IL;clear EU h21;obtain rfl:=RO;have am0:=HD.out.box.lt;replace HS:=jG HS;have lm:af yQ ⟨w2.heap.size,4,V⟩=ah (.string ⟨#[]⟩):=HD.out.cell rfl;have fy:∀i,ag yQ ⟨w2.heap.size,i,V⟩=false:=fun i=>HD.out.tZ i;go_wp2_with fail;replace HD:ai (xR w w2.heap.size x4 p4 x4.length ⟨x1,x2,x4.map (fun q=>(⟨q.1,q.2⟩:dQ)),x6,nY,zD,zD⟩ ⟨q,x4.length,c,V,0,0,V,0,0,V,0,0,V,0,0⟩ (yQ.setCell ⟨w2.heap.size,4,V⟩ (.string nY))):=X (HD.out.set dO 4 (.string nY));clear lm fy;refine(gW _ _ (HR.out.low qe) (by decide)).mono ?_;rintro e LC h22;rcases h22.cases with⟨x22,u22,v22,EW,rfl,I5,RP,IM⟩|⟨u22,EW,rfl,I5⟩
        rotate_left 1
        · exact pG
        replace HS:=bY HS EW;replace HD:=X (HD.out.up (dO) (w1:=LC) qe);replace HB:ai (Bt g w LC):=X qh;replace HR:=X IM;clear I5 IM;clear EW h22;obtain rfl:=RP;have am1:=HD.out.box.lt;replace HS:=jG HS;go_wp2_with fail;refine(Jv _ (HR.out.low qe)).mono ?_;rintro e mr h23;rcases h23.cases with⟨iD,u23,v23,EX,rfl,I6,RQ,IP⟩|⟨u23,EX,rfl,I6⟩
        rotate_left 1
        · exact pG
        replace HS:=bY HS EX;obtain⟨pz,pq,qL,pF,pE,qO,rfl,J8,J_⟩:=RQ;have xL:=(HD.out.put dO (w1:=mr) qe (i:=3) (by decide) (F2:=fun G w=>Ints G w iD.vs pz pq/\Ints G w iD.ws pF pE) ⟨J8,J_⟩ (GN fO fO)).cast aeL rfl;have lh:ai (xR w w2.heap.size x4 p4 x4.length ⟨x1,x2,x4.map (fun q=>(⟨q.1,q.2⟩:dQ)),x6,nY,iD,zD⟩ ⟨q,x4.length,c,pz,pq,qL,pF,pE,qO,V,0,0,V,0,0⟩ (((((((mr).setCell ⟨w2.heap.size,5,V⟩ (.int .i64 iD.op)).setCell ⟨w2.heap.size,6,V⟩ (.int .i64 iD.a)).setCell ⟨w2.heap.size,7,V⟩ (.int .i64 iD.b)).setCell ⟨w2.heap.size,8,V⟩ (.int .i64 iD.n)).setCell ⟨w2.heap.size,9,V⟩ (.slice pz pq qL)).setCell ⟨w2.heap.size,10,V⟩ (.slice pF pE qO))):=X (((((((xL).set dO 5 (.int .i64 iD.op)).set dO 6 (.int .i64 iD.a)).set dO 7 (.int .i64 iD.b)).set dO 8 (.int .i64 iD.n)).set dO 9 (.slice pz pq qL)).set dO 10 (.slice pF pE qO));replace HD:=X (HD.out.up dO (w1:=mr) qe);replace HB:ai (Bt g w mr):=X qh;replace HR:=X IP;clear I6 IP;clear EX h23 J8 J_ xL;have y0:af mr ⟨w2.heap.size,5,V⟩=ah (.int .i64 0):=HD.out.cell rfl;have y1:af mr ⟨w2.heap.size,6,V⟩=ah (.int .i64 0):=HD.out.cell rfl;have y2:af mr ⟨w2.heap.size,7,V⟩=ah (.int .i64 0):=HD.out.cell rfl;have y3:af mr ⟨w2.heap.size,8,V⟩=ah (.int .i64 0):=HD.out.cell rfl;have y4:af mr ⟨w2.heap.size,9,V⟩=ah (.slice V 0 0):=HD.out.cell rfl;have y5:af mr ⟨w2.heap.size,10,V⟩=ah (.slice V 0 0):=HD.out.cell rfl;have fy:∀i,ag mr ⟨w2.heap.size,i,V⟩=false:=fun i=>HD.out.tZ i;have am2:=HD.out.box.lt;dsimp only [wG];go_wp2_with fail;replace HD:=lh;clear lh y0 y1 y2 y3 y4 y5 fy;replace HS:=jG HS;refine(gW _ _ (HR.out.low qe) (by decide)).mono ?_;rintro e LD JK;rcases JK.cases with⟨x24,u24,v24,EY,rfl,I7,RU,IQ⟩|⟨u24,EY,rfl,I7⟩
        rotate_left 1
        · exact pG
        replace HS:=bY HS EY;replace HD:=X (HD.out.up (dO) (w1:=LD) qe);replace HB:ai (Bt g w LD):=X qh;replace HR:=X IQ;clear I7 IQ;clear EY JK;obtain rfl:=RU;have am3:=HD.out.box.lt;replace HS:=jG HS;go_wp2_with fail;refine(Jv _ (HR.out.low qe)).mono ?_;rintro e mD JL;rcases JL.cases with⟨x25,u25,v25,EZ,rfl,I8,RV,IU⟩|⟨u25,EZ,rfl,I8⟩
        rotate_left 1
        · exact pG
        replace HS:=bY HS EZ;obtain⟨qN,qM,tH,qQ,qP,tJ,rfl,J9,Ka⟩:=RV;have xL:=(HD.out.put dO (w1:=mD) qe (i:=4) (by decide) (F2:=fun G w=>Ints G w x25.vs qN qM/\Ints G w x25.ws qQ qP) ⟨J9,Ka⟩ (GN fO fO)).cast aeK rfl;have lh:ai (xR w w2.heap.size x4 p4 x4.length ⟨x1,x2,x4.map (fun q=>(⟨q.1,q.2⟩:dQ)),x6,nY,iD,x25⟩ ⟨q,x4.length,c,pz,pq,qL,pF,pE,qO,qN,qM,tH,qQ,qP,tJ⟩ (((((((mD).setCell ⟨w2.heap.size,11,V⟩ (.int .i64 x25.op)).setCell ⟨w2.heap.size,12,V⟩ (.int .i64 x25.a)).setCell ⟨w2.heap.size,13,V⟩ (.int .i64 x25.b)).setCell ⟨w2.heap.size,14,V⟩ (.int .i64 x25.n)).setCell ⟨w2.heap.size,15,V⟩ (.slice qN qM tH)).setCell ⟨w2.heap.size,16,V⟩ (.slice qQ qP tJ))):=X (((((((xL).set dO 11 (.int .i64 x25.op)).set dO 12 (.int .i64 x25.a)).set dO 13 (.int .i64 x25.b)).set dO 14 (.int .i64 x25.n)).set dO 15 (.slice qN qM tH)).set dO 16 (.slice qQ qP tJ));replace HD:=X (HD.out.up dO (w1:=mD) qe);replace HB:ai (Bt g w mD):=X qh;replace HR:=X IU;clear I8 IU;clear EZ JL J9 Ka xL;have y0:af mD ⟨w2.heap.size,11,V⟩=ah (.int .i64 0):=HD.out.cell rfl;have y1:af mD ⟨w2.heap.size,12,V⟩=ah (.int .i64 0):=HD.out.cell rfl;have y2:af mD ⟨w2.heap.size,13,V⟩=ah (.int .i64 0):=HD.out.cell rfl;have y3:af mD ⟨w2.heap.size,14,V⟩=ah (.int .i64 0):=HD.out.cell rfl;have y4:af mD ⟨w2.heap.size,15,V⟩=ah (.slice V 0 0):=HD.out.cell rfl;have y5:af mD ⟨w2.heap.size,16,V⟩=ah (.slice V 0 0):=HD.out.cell rfl;have fy:∀i,ag mD ⟨w2.heap.size,i,V⟩=false:=fun i=>HD.out.tZ i;have am4:=HD.out.box.lt;dsimp only [wG];go_wp2_with fail;replace HD:=lh;clear lh y0 y1 y2 y3 y4 y5 fy;replace HS:=nJ HS;refine(mg _ (HR.out.low qe)).mono ?_;rintro e mF yc;rcases yc.cases with⟨XD,u26,v26,sP,rfl,xU,D8,xQ⟩|⟨u26,sP,rfl,xU⟩
        rotate_left 1
        · exact pG
        replace HS:=bY HS sP;replace HD:=X (HD.out.up (dO) (w1:=mF) qe);replace HB:ai (Bt g w mF):=X qh;replace HR:=X xQ;clear xU xQ;clear sP yc;obtain rfl:=D8;have Z0:=HD.out.part dO 0;have Z:=X Z0.2;have Y:ai (bT mF w2.heap.size 111 (dI ⟨x1,x2,x4.map (fun q=>(⟨q.1,q.2⟩:dQ)),x6,nY,iD,x25⟩ ⟨q,x4.length,c,pz,pq,qL,pF,pE,qO,qN,qM,tH,qQ,qP,tJ⟩)):=X HD.out.box;have K2:=HD.out.off dO (z:=w.heap.size) (fun G h=>h.1) (j:=2) (by decide);have K3:=HD.out.off dO (z:=w.heap.size) (fun G h=>h.1) (j:=3) (by decide);have K4:=HD.out.off dO (z:=w.heap.size) (fun G h=>h.1) (j:=4) (by decide);obtain⟨p',c',e,hrw⟩:=bZ.rw iU.map KJ K2 (by have:=HL.out;simp;omega);have hrw2:Rw 2 iU (fun k=>w.heap.size<=k/\¬k=w.heap.size/\¬k=w2.heap.size) mF (x4.map (fun q=>(⟨q.1,q.2⟩:dQ))) q x4.length:=by
         exact QT
        have qW:∀W,bR (fun k=>w.heap.size<=k/\¬k=w.heap.size/\¬k=w2.heap.size) mF W->iV (fun b=>w.heap.size<=b) W ⟨x1,x2,x4.map (fun q=>(⟨q.1,q.2⟩:dQ)),x6,nY,iD,x25⟩ (dI ⟨x1,x2,x4.map (fun q=>(⟨q.1,q.2⟩:dQ)),x6,nY,iD,x25⟩ ⟨q,x4.length,c,pz,pq,qL,pF,pE,qO,qN,qM,tH,qQ,qP,tJ⟩):=fun W q=>⟨_,rfl,⟨(gK (kX iU.map) hrw2 q).mono iU.map fun b hb _=>hb.1,rA fO (gK fO K3.1 q) fun b hb=>hb.1,rA fO (gK fO K3.2 q) fun b hb=>hb.1,rA fO (gK fO K4.1 q) fun b hb=>hb.1,rA fO (gK fO K4.2 q) fun b hb=>hb.1⟩⟩
        clear Z0 K2 K3 K4 e hrw hrw2 HD;obtain⟨W,hP⟩:=gM (c:=dI ⟨x1,x2,x4.map (fun q=>(⟨q.1,q.2⟩:dQ)),x6,nY,iD,x25⟩ ⟨q,x4.length,c,pz,pq,qL,pF,pE,qO,qN,qM,tH,qQ,qP,tJ⟩) Z.out Cc (Ee _ _) rfl;have gY:=hP.bt;have eT:=X hP.box;have gZ:=hP.size;go_wp2_with (first|(refine wpList_load_row rfl 111 _ rfl _ rfl 111 _ (0,0) _ Y.out Tryz.underlying111 rfl (by kernel_rfl) ?_)|(refine gN rfl 111 _ _ rfl w.heap.size _ rfl rfl hP ?_))
        have bU:=HB.out;refine bodyPost_ret (v:=.agg (dI ⟨x1,x2,x4.map (fun q=>(⟨q.1,q.2⟩:dQ)),x6,nY,iD,x25⟩ ⟨q,x4.length,c,pz,pq,qL,pF,pE,qO,qN,qM,tH,qQ,qP,tJ⟩)) ?_ rfl (PO.ok (dA HS) qe ⟨_,rfl,qW _ qe⟩ (HR.out.low qe));exact QU
      · replace HS:=nJ (yH HS i20);replace HD:=X (HD.out.up (dO) (w1:=BA) qe);replace HB:ai (Bt g w BA):=X qh;replace HR:=X xP;clear b20 xP;clear i20;have Ua:=HD.out.box.lt;go_wp2_with fail;refine(mg _ (HR.out.low qe)).mono ?_;rintro e mF yc;rcases yc.cases with⟨XD,u26,v26,sP,rfl,xU,D8,xQ⟩|⟨u26,sP,rfl,xU⟩
        rotate_left 1
        · exact pG
        replace HS:=bY HS sP;replace HD:=X (HD.out.up (dO) (w1:=mF) qe);replace HB:ai (Bt g w mF):=X qh;replace HR:=X xQ;clear xU xQ;clear sP yc;obtain rfl:=D8;have Z0:=HD.out.part dO 0;have Z:=X Z0.2;have Y:ai (bT mF w2.heap.size 111 (dI ⟨x1,x2,x4.map (fun q=>(⟨q.1,q.2⟩:dQ)),x6,mt,zD,zD⟩ ⟨q,x4.length,c,V,0,0,V,0,0,V,0,0,V,0,0⟩)):=X HD.out.box;have K2:=HD.out.off dO (z:=w.heap.size) (fun G h=>h.1) (j:=2) (by decide);have K3:=HD.out.off dO (z:=w.heap.size) (fun G h=>h.1) (j:=3) (by decide);have K4:=HD.out.off dO (z:=w.heap.size) (fun G h=>h.1) (j:=4) (by decide);obtain⟨p',c',e,hrw⟩:=bZ.rw iU.map KJ K2 (by have:=HL.out;simp;omega);have hrw2:Rw 2 iU (fun k=>w.heap.size<=k/\¬k=w.heap.size/\¬k=w2.heap.size) mF (x4.map (fun q=>(⟨q.1,q.2⟩:dQ))) q x4.length:=by
         exact QT
        have qW:∀W,bR (fun k=>w.heap.size<=k/\¬k=w.heap.size/\¬k=w2.heap.size) mF W->iV (fun b=>w.heap.size<=b) W ⟨x1,x2,x4.map (fun q=>(⟨q.1,q.2⟩:dQ)),x6,mt,zD,zD⟩ (dI ⟨x1,x2,x4.map (fun q=>(⟨q.1,q.2⟩:dQ)),x6,mt,zD,zD⟩ ⟨q,x4.length,c,V,0,0,V,0,0,V,0,0,V,0,0⟩):=fun W q=>⟨_,rfl,⟨(gK (kX iU.map) hrw2 q).mono iU.map fun b hb _=>hb.1,rA fO (gK fO K3.1 q) fun b hb=>hb.1,rA fO (gK fO K3.2 q) fun b hb=>hb.1,rA fO (gK fO K4.1 q) fun b hb=>hb.1,rA fO (gK fO K4.2 q) fun b hb=>hb.1⟩⟩
        clear Z0 K2 K3 K4 e hrw hrw2 HD;obtain⟨W,hP⟩:=gM (c:=dI ⟨x1,x2,x4.map (fun q=>(⟨q.1,q.2⟩:dQ)),x6,mt,zD,zD⟩ ⟨q,x4.length,c,V,0,0,V,0,0,V,0,0,V,0,0⟩) Z.out Cc (Ee _ _) rfl;have gY:=hP.bt;have eT:=X hP.box;have gZ:=hP.size;go_wp2_with (first|(refine wpList_load_row rfl 111 _ rfl _ rfl 111 _ (0,0) _ Y.out Tryz.underlying111 rfl (by kernel_rfl) ?_)|(refine gN rfl 111 _ _ rfl w.heap.size _ rfl rfl hP ?_))
        have bU:=HB.out;refine bodyPost_ret (v:=.agg (dI ⟨x1,x2,x4.map (fun q=>(⟨q.1,q.2⟩:dQ)),x6,mt,zD,zD⟩ ⟨q,x4.length,c,V,0,0,V,0,0,V,0,0,V,0,0⟩)) ?_ rfl (PO.ok (dA HS) qe ⟨_,rfl,qW _ qe⟩ (HR.out.low qe));exact QU
 · replace HS:=nJ (yH HS i3);have HD:=X (hd1.out.up dO (w1:=w3) qe);replace HB:ai (Bt g w w3):=X qh;replace HR:=X R3;clear b3 R3;clear i3 hd1;have hb3:=HD.out.box.lt;go_wp2_with fail;refine(dL Uv _ (HR.out.low qe) (by decide)).mono ?_;rintro e BA ⟨b20,⟨i20,rfl,xP⟩|⟨i20,rfl,xP⟩⟩
   · replace HS:=jG (yI HS i20);replace HD:=X (HD.out.up (dO) (w1:=BA) qe);replace HB:ai (Bt g w BA):=X qh;replace HR:=X xP;clear b20 xP;clear i20;have Ua:=HD.out.box.lt;go_wp2_with fail;refine(jR _ (HR.out.low qe)).mono ?_;rintro e yQ h21;rcases h21.cases with⟨nY,u21,v21,EU,rfl,I4,RO,IL⟩|⟨u21,EU,rfl,I4⟩
     rotate_left 1
     · exact pG
     replace HS:=bY HS EU;replace HD:=X (HD.out.up (dO) (w1:=yQ) qe);replace HB:ai (Bt g w yQ):=X qh;replace HR:=X IL;clear I4 IL;clear EU h21;obtain rfl:=RO;have am0:=HD.out.box.lt;replace HS:=jG HS;have lm:af yQ ⟨w2.heap.size,4,V⟩=ah (.string ⟨#[]⟩):=HD.out.cell rfl;have fy:∀i,ag yQ ⟨w2.heap.size,i,V⟩=false:=fun i=>HD.out.tZ i;go_wp2_with fail;replace HD:ai (xR w w2.heap.size [] V 0 ⟨x1,x2,[],0,nY,zD,zD⟩ ⟨V,0,0,V,0,0,V,0,0,V,0,0,V,0,0⟩ (yQ.setCell ⟨w2.heap.size,4,V⟩ (.string nY))):=X (HD.out.set dO 4 (.string nY));clear lm fy;refine(gW _ _ (HR.out.low qe) (by decide)).mono ?_;rintro e LC h22;rcases h22.cases with⟨x22,u22,v22,EW,rfl,I5,RP,IM⟩|⟨u22,EW,rfl,I5⟩
     rotate_left 1
     · exact pG
     replace HS:=bY HS EW;replace HD:=X (HD.out.up (dO) (w1:=LC) qe);replace HB:ai (Bt g w LC):=X qh;replace HR:=X IM;clear I5 IM;clear EW h22;obtain rfl:=RP;have am1:=HD.out.box.lt;replace HS:=jG HS;go_wp2_with fail;refine(Jv _ (HR.out.low qe)).mono ?_;rintro e mr h23;rcases h23.cases with⟨iD,u23,v23,EX,rfl,I6,RQ,IP⟩|⟨u23,EX,rfl,I6⟩
     rotate_left 1
     · exact pG
     replace HS:=bY HS EX;obtain⟨pz,pq,qL,pF,pE,qO,rfl,J8,J_⟩:=RQ;have xL:=(HD.out.put dO (w1:=mr) qe (i:=3) (by decide) (F2:=fun G w=>Ints G w iD.vs pz pq/\Ints G w iD.ws pF pE) ⟨J8,J_⟩ (GN fO fO)).cast aeL rfl;have lh:ai (xR w w2.heap.size [] V 0 ⟨x1,x2,[],0,nY,iD,zD⟩ ⟨V,0,0,pz,pq,qL,pF,pE,qO,V,0,0,V,0,0⟩ (((((((mr).setCell ⟨w2.heap.size,5,V⟩ (.int .i64 iD.op)).setCell ⟨w2.heap.size,6,V⟩ (.int .i64 iD.a)).setCell ⟨w2.heap.size,7,V⟩ (.int .i64 iD.b)).setCell ⟨w2.heap.size,8,V⟩ (.int .i64 iD.n)).setCell ⟨w2.heap.size,9,V⟩ (.slice pz pq qL)).setCell ⟨w2.heap.size,10,V⟩ (.slice pF pE qO))):=X (((((((xL).set dO 5 (.int .i64 iD.op)).set dO 6 (.int .i64 iD.a)).set dO 7 (.int .i64 iD.b)).set dO 8 (.int .i64 iD.n)).set dO 9 (.slice pz pq qL)).set dO 10 (.slice pF pE qO));replace HD:=X (HD.out.up dO (w1:=mr) qe);replace HB:ai (Bt g w mr):=X qh;replace HR:=X IP;clear I6 IP;clear EX h23 J8 J_ xL;have y0:af mr ⟨w2.heap.size,5,V⟩=ah (.int .i64 0):=HD.out.cell rfl;have y1:af mr ⟨w2.heap.size,6,V⟩=ah (.int .i64 0):=HD.out.cell rfl;have y2:af mr ⟨w2.heap.size,7,V⟩=ah (.int .i64 0):=HD.out.cell rfl;have y3:af mr ⟨w2.heap.size,8,V⟩=ah (.int .i64 0):=HD.out.cell rfl;have y4:af mr ⟨w2.heap.size,9,V⟩=ah (.slice V 0 0):=HD.out.cell rfl;have y5:af mr ⟨w2.heap.size,10,V⟩=ah (.slice V 0 0):=HD.out.cell rfl;have fy:∀i,ag mr ⟨w2.heap.size,i,V⟩=false:=fun i=>HD.out.tZ i;have am2:=HD.out.box.lt;dsimp only [wG];go_wp2_with fail;replace HD:=lh;clear lh y0 y1 y2 y3 y4 y5 fy;replace HS:=jG HS;refine(gW _ _ (HR.out.low qe) (by decide)).mono ?_;rintro e LD JK;rcases JK.cases with⟨x24,u24,v24,EY,rfl,I7,RU,IQ⟩|⟨u24,EY,rfl,I7⟩
     rotate_left 1
     · exact pG
     replace HS:=bY HS EY;replace HD:=X (HD.out.up (dO) (w1:=LD) qe);replace HB:ai (Bt g w LD):=X qh;replace HR:=X IQ;clear I7 IQ;clear EY JK;obtain rfl:=RU;have am3:=HD.out.box.lt;replace HS:=jG HS;go_wp2_with fail;refine(Jv _ (HR.out.low qe)).mono ?_;rintro e mD JL;rcases JL.cases with⟨x25,u25,v25,EZ,rfl,I8,RV,IU⟩|⟨u25,EZ,rfl,I8⟩
     rotate_left 1
     · exact pG
     replace HS:=bY HS EZ;obtain⟨qN,qM,tH,qQ,qP,tJ,rfl,J9,Ka⟩:=RV;have xL:=(HD.out.put dO (w1:=mD) qe (i:=4) (by decide) (F2:=fun G w=>Ints G w x25.vs qN qM/\Ints G w x25.ws qQ qP) ⟨J9,Ka⟩ (GN fO fO)).cast aeK rfl;have lh:ai (xR w w2.heap.size [] V 0 ⟨x1,x2,[],0,nY,iD,x25⟩ ⟨V,0,0,pz,pq,qL,pF,pE,qO,qN,qM,tH,qQ,qP,tJ⟩ (((((((mD).setCell ⟨w2.heap.size,11,V⟩ (.int .i64 x25.op)).setCell ⟨w2.heap.size,12,V⟩ (.int .i64 x25.a)).setCell ⟨w2.heap.size,13,V⟩ (.int .i64 x25.b)).setCell ⟨w2.heap.size,14,V⟩ (.int .i64 x25.n)).setCell ⟨w2.heap.size,15,V⟩ (.slice qN qM tH)).setCell ⟨w2.heap.size,16,V⟩ (.slice qQ qP tJ))):=X (((((((xL).set dO 11 (.int .i64 x25.op)).set dO 12 (.int .i64 x25.a)).set dO 13 (.int .i64 x25.b)).set dO 14 (.int .i64 x25.n)).set dO 15 (.slice qN qM tH)).set dO 16 (.slice qQ qP tJ));replace HD:=X (HD.out.up dO (w1:=mD) qe);replace HB:ai (Bt g w mD):=X qh;replace HR:=X IU;clear I8 IU;clear EZ JL J9 Ka xL;have y0:af mD ⟨w2.heap.size,11,V⟩=ah (.int .i64 0):=HD.out.cell rfl;have y1:af mD ⟨w2.heap.size,12,V⟩=ah (.int .i64 0):=HD.out.cell rfl;have y2:af mD ⟨w2.heap.size,13,V⟩=ah (.int .i64 0):=HD.out.cell rfl;have y3:af mD ⟨w2.heap.size,14,V⟩=ah (.int .i64 0):=HD.out.cell rfl;have y4:af mD ⟨w2.heap.size,15,V⟩=ah (.slice V 0 0):=HD.out.cell rfl;have y5:af mD ⟨w2.heap.size,16,V⟩=ah (.slice V 0 0):=HD.out.cell rfl;have fy:∀i,ag mD ⟨w2.heap.size,i,V⟩=false:=fun i=>HD.out.tZ i;have am4:=HD.out.box.lt;dsimp only [wG];go_wp2_with fail;replace HD:=lh;clear lh y0 y1 y2 y3 y4 y5 fy;replace HS:=nJ HS;refine(mg _ (HR.out.low qe)).mono ?_;rintro e mF yc;rcases yc.cases with⟨XD,u26,v26,sP,rfl,xU,D8,xQ⟩|⟨u26,sP,rfl,xU⟩
     rotate_left 1
     · exact pG
     replace HS:=bY HS sP;replace HD:=X (HD.out.up (dO) (w1:=mF) qe);replace HB:ai (Bt g w mF):=X qh;replace HR:=X xQ;clear xU xQ;clear sP yc;obtain rfl:=D8;have Z0:=HD.out.part dO 0;have Z:=X Z0.2;have Y:ai (bT mF w2.heap.size 111 (dI ⟨x1,x2,[],0,nY,iD,x25⟩ ⟨V,0,0,pz,pq,qL,pF,pE,qO,qN,qM,tH,qQ,qP,tJ⟩)):=X HD.out.box;have K2:=HD.out.off dO (z:=w.heap.size) (fun G h=>h.1) (j:=2) (by decide);have K3:=HD.out.off dO (z:=w.heap.size) (fun G h=>h.1) (j:=3) (by decide);have K4:=HD.out.off dO (z:=w.heap.size) (fun G h=>h.1) (j:=4) (by decide);obtain⟨p',c',e,hrw⟩:=bZ.rw iU.map KJ K2 (by simp);have hrw2:Rw 2 iU (fun k=>w.heap.size<=k/\¬k=w.heap.size/\¬k=w2.heap.size) mF ([]) V 0:=by
      exact QT
     have qW:∀W,bR (fun k=>w.heap.size<=k/\¬k=w.heap.size/\¬k=w2.heap.size) mF W->iV (fun b=>w.heap.size<=b) W ⟨x1,x2,[],0,nY,iD,x25⟩ (dI ⟨x1,x2,[],0,nY,iD,x25⟩ ⟨V,0,0,pz,pq,qL,pF,pE,qO,qN,qM,tH,qQ,qP,tJ⟩):=fun W q=>⟨_,rfl,⟨(gK (kX iU.map) hrw2 q).mono iU.map fun b hb _=>hb.1,rA fO (gK fO K3.1 q) fun b hb=>hb.1,rA fO (gK fO K3.2 q) fun b hb=>hb.1,rA fO (gK fO K4.1 q) fun b hb=>hb.1,rA fO (gK fO K4.2 q) fun b hb=>hb.1⟩⟩
     clear Z0 K2 K3 K4 e hrw hrw2 HD;obtain⟨W,hP⟩:=gM (c:=dI ⟨x1,x2,[],0,nY,iD,x25⟩ ⟨V,0,0,pz,pq,qL,pF,pE,qO,qN,qM,tH,qQ,qP,tJ⟩) Z.out Cc (Ee _ _) rfl;have gY:=hP.bt;have eT:=X hP.box;have gZ:=hP.size;go_wp2_with (first|(refine wpList_load_row rfl 111 _ rfl _ rfl 111 _ (0,0) _ Y.out Tryz.underlying111 rfl (by kernel_rfl) ?_)|(refine gN rfl 111 _ _ rfl w.heap.size _ rfl rfl hP ?_))
     have bU:=HB.out;refine bodyPost_ret (v:=.agg (dI ⟨x1,x2,[],0,nY,iD,x25⟩ ⟨V,0,0,pz,pq,qL,pF,pE,qO,qN,qM,tH,qQ,qP,tJ⟩)) ?_ rfl (PO.ok (dA HS) qe ⟨_,rfl,qW _ qe⟩ (HR.out.low qe));exact QU
   · replace HS:=nJ (yH HS i20);replace HD:=X (HD.out.up (dO) (w1:=BA) qe);replace HB:ai (Bt g w BA):=X qh;replace HR:=X xP;clear b20 xP;clear i20;have Ua:=HD.out.box.lt;go_wp2_with fail;refine(mg _ (HR.out.low qe)).mono ?_;rintro e mF yc;rcases yc.cases with⟨XD,u26,v26,sP,rfl,xU,D8,xQ⟩|⟨u26,sP,rfl,xU⟩
     rotate_left 1
     · exact pG
     replace HS:=bY HS sP;replace HD:=X (HD.out.up (dO) (w1:=mF) qe);replace HB:ai (Bt g w mF):=X qh;replace HR:=X xQ;clear xU xQ;clear sP yc;obtain rfl:=D8;have Z0:=HD.out.part dO 0;have Z:=X Z0.2;have Y:ai (bT mF w2.heap.size 111 (dI ⟨x1,x2,[],0,mt,zD,zD⟩ ⟨V,0,0,V,0,0,V,0,0,V,0,0,V,0,0⟩)):=X HD.out.box;have K2:=HD.out.off dO (z:=w.heap.size) (fun G h=>h.1) (j:=2) (by decide);have K3:=HD.out.off dO (z:=w.heap.size) (fun G h=>h.1) (j:=3) (by decide);have K4:=HD.out.off dO (z:=w.heap.size) (fun G h=>h.1) (j:=4) (by decide);obtain⟨p',c',e,hrw⟩:=bZ.rw iU.map KJ K2 (by simp);have hrw2:Rw 2 iU (fun k=>w.heap.size<=k/\¬k=w.heap.size/\¬k=w2.heap.size) mF ([]) V 0:=by
      exact QT
     have qW:∀W,bR (fun k=>w.heap.size<=k/\¬k=w.heap.size/\¬k=w2.heap.size) mF W->iV (fun b=>w.heap.size<=b) W ⟨x1,x2,[],0,mt,zD,zD⟩ (dI ⟨x1,x2,[],0,mt,zD,zD⟩ ⟨V,0,0,V,0,0,V,0,0,V,0,0,V,0,0⟩):=fun W q=>⟨_,rfl,⟨(gK (kX iU.map) hrw2 q).mono iU.map fun b hb _=>hb.1,rA fO (gK fO K3.1 q) fun b hb=>hb.1,rA fO (gK fO K3.2 q) fun b hb=>hb.1,rA fO (gK fO K4.1 q) fun b hb=>hb.1,rA fO (gK fO K4.2 q) fun b hb=>hb.1⟩⟩
     clear Z0 K2 K3 K4 e hrw hrw2 HD;obtain⟨W,hP⟩:=gM (c:=dI ⟨x1,x2,[],0,mt,zD,zD⟩ ⟨V,0,0,V,0,0,V,0,0,V,0,0,V,0,0⟩) Z.out Cc (Ee _ _) rfl;have gY:=hP.bt;have eT:=X hP.box;have gZ:=hP.size;go_wp2_with (first|(refine wpList_load_row rfl 111 _ rfl _ rfl 111 _ (0,0) _ Y.out Tryz.underlying111 rfl (by kernel_rfl) ?_)|(refine gN rfl 111 _ _ rfl w.heap.size _ rfl rfl hP ?_))
     have bU:=HB.out;refine bodyPost_ret (v:=.agg (dI ⟨x1,x2,[],0,mt,zD,zD⟩ ⟨V,0,0,V,0,0,V,0,0,V,0,0,V,0,0⟩)) ?_ rfl (PO.ok (dA HS) qe ⟨_,rfl,qW _ qe⟩ (HR.out.low qe));exact QU
end
end Ps
namespace Sm
open Go.ChangeShapes Go.WideShapes Go.ChangeAt Go.RowKit Go.Joins Go.Deep
open Ex (Ex)
set_option maxHeartbeats 2000000
section
variable {H:Type} {enc:TypeId×Value->H}
def Fits (B:Nat) (x:St):Prop:=x.nm.size<=B/\x.f.size<=B/\(5*Ex.cnt x.e<=B/\∀z∈Ex.pre x.e,z.s.size<=B)/\(5*Ex.cnt x.g<=B/\∀z∈Ex.pre x.g,z.s.size<=B)/\∀u∈x.ar,5*Ex.cnt u<=B/\∀z∈Ex.pre u,z.s.size<=B
theorem Fits.mono {B C:Nat} {x:St} (iL:B<=C) (h:Fits B x):Fits C x:=
 ⟨by have:=h.1;omega,by have:=h.2.1;omega,⟨by have:=h.2.2.1.1;omega,fun z hz=>ae (h.2.2.1.2 z hz) iL⟩,⟨by have:=h.2.2.2.1.1;omega,fun z hz=>ae (h.2.2.2.1.2 z hz) iL⟩,fun u hu=>⟨by have:=(h.2.2.2.2 u hu).1;omega,fun z hz=>ae ((h.2.2.2.2 u hu).2 z hz) iL⟩⟩
end
end Sm
namespace Md
open Go.ChangeShapes Go.WideShapes Go.ChangeAt Go.RowKit Go.Joins Go.Deep
open Sm (fw Dw Fits)
set_option maxHeartbeats 2000000
section
variable {H:Type} {enc:TypeId×Value->H}
structure Re (B:Nat) (x:dQ):Prop where
 t:True
theorem Re.mono {B C:Nat} {x:dQ} (iL:B<=C) (h:Re B x):Re C x where
 t:=trivial
structure Iq (B:Nat) (x:Val):Prop where
 nm:x.nm.size<=B
theorem Iq.mono {B C:Nat} {x:Val} (iL:B<=C) (h:Iq B x):Iq C x where
 nm:=by have:=h.nm;omega
structure Mq (B:Nat) (x:iI):Prop where
 nm:x.nm.size<=B
theorem Mq.mono {B C:Nat} {x:iI} (iL:B<=C) (h:Mq B x):Mq C x where
 nm:=by have:=h.nm;omega
structure Mh (B:Nat) (x:iF):Prop where
 nm:x.nm.size<=B
theorem Mh.mono {B C:Nat} {x:iF} (iL:B<=C) (h:Mh B x):Mh C x where
 nm:=by have:=h.nm;omega
structure Ip (B:Nat) (x:d_):Prop where
 nm:x.nm.size<=B
theorem Ip.mono {B C:Nat} {x:d_} (iL:B<=C) (h:Ip B x):Ip C x where
 nm:=by have:=h.nm;omega
structure Rh (B:Nat) (x:gU):Prop where
 wh:x.wh.size<=B
 nm:x.nm.size<=B
theorem Rh.mono {B C:Nat} {x:gU} (iL:B<=C) (h:Rh B x):Rh C x where
 wh:=by have:=h.wh;omega
 nm:=by have:=h.nm;omega
structure Mi (B:Nat) (x:gz):Prop where
 fr:x.fr.size<=B
 tt:x.tt.size<=B
theorem Mi.mono {B C:Nat} {x:gz} (iL:B<=C) (h:Mi B x):Mi C x where
 fr:=by have:=h.fr;omega
 tt:=by have:=h.tt;omega
structure Mk (B:Nat) (x:dm):Prop where
 nm:x.nm.size<=B
theorem Mk.mono {B C:Nat} {x:dm} (iL:B<=C) (h:Mk B x):Mk C x where
 nm:=by have:=h.nm;omega
structure Ml (B:Nat) (x:eQ):Prop where
 nm:x.nm.size<=B
 ps:∀y∈x.ps,Ip B y
 ls:∀y∈x.ls,Ip B y
 pl:2*(x.ps.length+x.ls.length)<=B
 bs:Dw x.bo<=B
 bo:∀y∈fw x.bo,Fits B y
theorem Ml.mono {B C:Nat} {x:eQ} (iL:B<=C) (h:Ml B x):Ml C x where
 nm:=by have:=h.nm;omega
 ps:=fun y hy=>(h.ps y hy).mono iL
 ls:=fun y hy=>(h.ls y hy).mono iL
 pl:=by have:=h.pl;omega
 bs:=by have:=h.bs;omega
 bo:=fun y hy=>(h.bo y hy).mono iL
structure Mm (B:Nat) (x:h_):Prop where
 t:True
theorem Mm.mono {B C:Nat} {x:h_} (iL:B<=C) (h:Mm B x):Mm C x where
 t:=trivial
structure Mj (B:Nat) (x:Lw):Prop where
 nm:x.nm.size<=B
theorem Mj.mono {B C:Nat} {x:Lw} (iL:B<=C) (h:Mj B x):Mj C x where
 nm:=by have:=h.nm;omega
structure Mo (B:Nat) (x:b_):Prop where
 nm:x.nm.size<=B
 va:∀y∈x.va,Iq B y
 vaL:2*x.va.length<=B
 rs:∀y∈x.rs,Mk B y
 rsL:2*x.rs.length<=B
 st:∀y∈x.st,Mq B y
 xC:2*x.st.length<=B
 be:∀y∈x.be,Mh B y
 ZJ:2*x.be.length<=B
 qu:∀y∈x.qu,y.size<=B
 quL:x.qu.length<=B
 sm:∀y∈x.sm,y.size<=B
 smL:x.sm.length<=B
 ta:∀y∈x.ta,y.size<=B
 taL:x.ta.length<=B
 le:∀y∈x.le,y.size<=B
 leL:x.le.length<=B
 co:∀y∈x.co,y.size<=B
 coL:x.co.length<=B
 ro:∀y∈x.ro,Ml B y
 roL:2*x.ro.length<=B
 ss:∀y∈x.ss,Mm B y
 pg:2*x.ss.length<=B
 la:∀y∈x.la,Mj B y
 laL:2*x.la.length<=B
theorem Mo.mono {B C:Nat} {x:b_} (iL:B<=C) (h:Mo B x):Mo C x where
 nm:=by have:=h.nm;omega
 va:=fun y hy=>(h.va y hy).mono iL
 vaL:=by have:=h.vaL;omega
 rs:=fun y hy=>(h.rs y hy).mono iL
 rsL:=by have:=h.rsL;omega
 st:=fun y hy=>(h.st y hy).mono iL
 xC:=by have:=h.xC;omega
 be:=fun y hy=>(h.be y hy).mono iL
 ZJ:=by have:=h.ZJ;omega
 qu:=fun y hy=>ae (h.qu y hy) iL
 quL:=by have:=h.quL;omega
 sm:=fun y hy=>ae (h.sm y hy) iL
 smL:=by have:=h.smL;omega
 ta:=fun y hy=>ae (h.ta y hy) iL
 taL:=by have:=h.taL;omega
 le:=fun y hy=>ae (h.le y hy) iL
 leL:=by have:=h.leL;omega
 co:=fun y hy=>ae (h.co y hy) iL
 coL:=by have:=h.coL;omega
 ro:=fun y hy=>(h.ro y hy).mono iL
 roL:=by have:=h.roL;omega
 ss:=fun y hy=>(h.ss y hy).mono iL
 pg:=by have:=h.pg;omega
 la:=fun y hy=>(h.la y hy).mono iL
 laL:=by have:=h.laL;omega
structure Rf (B:Nat) (x:dx):Prop where
 nm:x.nm.size<=B
 pa:∀y∈x.pa,Iq B y
 paL:x.pa.length<=B
 si:∀y∈x.si,Mo B y
 yF:x.si.length<=B
 li:∀y∈x.li,Mi B y
 liL:x.li.length<=B
theorem Rf.mono {B C:Nat} {x:dx} (iL:B<=C) (h:Rf B x):Rf C x where
 nm:=by have:=h.nm;omega
 pa:=fun y hy=>(h.pa y hy).mono iL
 paL:=by have:=h.paL;omega
 si:=fun y hy=>(h.si y hy).mono iL
 yF:=by have:=h.yF;omega
 li:=fun y hy=>(h.li y hy).mono iL
 liL:=by have:=h.liL;omega
end
end Md
namespace Md
open Go.ChangeShapes Go.WideShapes Go.ChangeAt Go.RowKit Go.Joins Go.Deep
open Sm (eZ)
set_option maxHeartbeats 2000000
structure Fit (x:dx):Prop where
 z:Zc x
 n:∀y∈x.si,RI y
 c:∀y∈x.si,∀r∈y.ro,eZ r.bo<=4000000
end Md
namespace Ps
open Ps.P (rt fl bd acc see len)
open Lx (Tk)
open Md (Val dm iI iF d_ eQ h_ Lw gz b_ dx B_ MV RI Fit names)
structure QL {α:Type} (P:α->Nat->Prop) (l:List α) (d:Nat):Prop where
 all:∀y∈l,P y d
 len:l.length<=d
theorem QL.nil {α:Type} {P:α->Nat->Prop} {d:Nat}:QL P [] d:=⟨fun y hy=>(by cases hy),Nat.zero_le _⟩
theorem QL.le {α:Type} {P:α->Nat->Prop} (hm:∀x a b,P x a->a<=b->P x b) {l:List α} {d c:Nat} (h:QL P l d) (hd:d<=c):QL P l c:=⟨fun y hy=>hm _ _ _ (h.all y hy) hd,ae h.len hd⟩
theorem jX {p:Prop} (h:p:=by omega):p:=h
theorem QL.snoc {α:Type} {P:α->Nat->Prop} (hm:∀x a b,P x a->a<=b->P x b) {l:List α} {y:α} {d c k:Nat} (h:QL P l d) (hy:P y c) (hk:d+(1+c)<=k):QL P (l++[y]) k:=by
 refine⟨fun z hz=>?_,by have:=h.len;simp;omega⟩;rcases List.mem_append.1 hz with hz|hz
 · exact hm _ _ _ (h.all z hz) jX
 · rw[List.mem_singleton] at hz;subst hz;exact hm _ _ _ hy jX
def sT (s:ByteArray) (d:Nat):Prop:=s.size<=20000
def Vy (x:Val) (d:Nat):Prop:=x.nm.size<=20000
def aeR (x:dm) (d:Nat):Prop:=x.nm.size<=20000
def aeX (x:iI) (d:Nat):Prop:=x.nm.size<=20000
def aeM (x:iF) (d:Nat):Prop:=x.nm.size<=20000
def aeU (x:h_) (d:Nat):Prop:=True
def sLw (x:Md.Lw) (d:Nat):Prop:=x.nm.size<=20000
def aeO (x:gz) (d:Nat):Prop:=x.fr.size<=20000/\x.tt.size<=20000
def agJ (x:d_) (d:Nat):Prop:=1<=d/\x.nm.size<=20000
structure Bl (x:eQ) (d:Nat):Prop where
 nm:x.nm.size<=20000
 fl:∀f∈x.ps++x.ls,f.nm.size<=20000
 ln:(x.ps++x.ls).length<=d
 bo:oM x.bo d
theorem Bl.le (x:eQ) (a b:Nat) (h:Bl x a) (hb:a<=b):Bl x b:=⟨h.nm,h.fl,ae h.ln hb,h.bo.le hb⟩
structure kP (x:b_) (d:Nat):Prop where
 nm:x.nm.size<=20000
 va:QL Vy x.va d
 rs:QL aeR x.rs d
 st:QL aeX x.st d
 be:QL aeM x.be d
 qu:QL sT x.qu d
 sm:QL sT x.sm d
 ta:QL sT x.ta d
 le:QL sT x.le d
 co:QL sT x.co d
 ro:QL Bl x.ro d
 ss:QL aeU x.ss d
 la:QL sLw x.la d
theorem kP.up (x:b_) (a b:Nat) (h:kP x a) (hb:a<=b):kP x b:=⟨h.nm,h.va.le (fun _ _ _ h _=>h) hb,h.rs.le (fun _ _ _ h _=>h) hb,h.st.le (fun _ _ _ h _=>h) hb,h.be.le (fun _ _ _ h _=>h) hb,h.qu.le (fun _ _ _ h _=>h) hb,h.sm.le (fun _ _ _ h _=>h) hb,h.ta.le (fun _ _ _ h _=>h) hb,h.le.le (fun _ _ _ h _=>h) hb,h.co.le (fun _ _ _ h _=>h) hb,h.ro.le Bl.le hb,h.ss.le (fun _ _ _ h _=>h) hb,h.la.le (fun _ _ _ h _=>h) hb⟩
structure qG (x:dx) (d:Nat):Prop where
 nm:x.nm.size<=20000
 pa:QL Vy x.pa d
 si:QL kP x.si d
 li:QL aeO x.li d
theorem qG.up (x:dx) (a b:Nat) (h:qG x a) (hb:a<=b):qG x b:=⟨h.nm,h.pa.le (fun _ _ _ h _=>h) hb,h.si.le kP.up hb,h.li.le (fun _ _ _ h _=>h) hb⟩
theorem En {α:Type} {n:Nat} {m:P α} (h:Dn n m):cO (fun _ d=>n<=d) m:=⟨fun {t u x} g e=>by have h1:=h.out g e;exact⟨h1.1,t.length-u.length,by omega,by omega⟩⟩
theorem aa5:cO (fun _ d=>1<=d) typ:=En Tg
theorem Eo:cO sT ui:=.bd mK fun s a ha=>.bd rZ fun _ b hb=>.rt ha.2
theorem aa6:cO Vy val:=.bd mK fun s a ha=>.bd aa5 fun y b hb=>.bd (mf (by decide)) fun _ c hc=>.bd (Q':=fun _ _=>True) (.iff (Tt.imp fun _ _ _=>trivial) (aaP.imp fun _ _ _=>trivial)) fun n d hn=>.bd rZ fun _ k hk=>.rt ha.2
theorem aaO:cO agJ zm:=.bd mK fun s a ha=>.bd aa5 fun y b hb=>.rt ⟨by omega,ha.2⟩
theorem alI:cO aeR gq:=.bd mK fun s a ha=>.bd pR fun n b hb=>.bd (En aax) fun h c hc=>.bd (En aao) fun f d hd=>.bd rZ fun _ k hk=>.rt ha.2
theorem alL:cO aeX Fu:=.bd mK fun s a ha=>.bd pR fun n b hb=>.bd (En aat) fun p c hc=>.bd rZ fun _ k hk=>.rt ha.2
theorem alz:cO aeM blt:=.bd mK fun s a ha=>.bd pR fun n b hb=>.bd pR fun p c hc=>.bd rZ fun _ k hk=>.rt ha.2
theorem aaQ:∀n l k,(∀f∈l,f.nm.size<=20000)->l.length<=k->cO (fun x d=>(∀f∈x,f.nm.size<=20000)/\x.length<=k+d) (Cz n l)
 | 0,_,_,_,_=>.fl
 | n+1,l,k,h,hk=>.acc (by decide) (.bd aaO fun x a ha=>.bd rZ fun _ b hb=>(aaQ n (l++[x]) (k+a) (fun f hf=>by
  rcases List.mem_append.1 hf with hf|hf
  · exact h f hf
  · rw[List.mem_singleton] at hf;subst hf;exact ha.2) (by have:=ha.1;simp;omega)).imp fun y c hy=>⟨hy.1,by omega⟩) (.rt ⟨h,by omega⟩)
theorem alH:cO Bl E_:=.bd mK fun s a ha=>.bd (aaR (Q:=agJ) (fun x a b h hb=>⟨ae h.1 hb,h.2⟩) (fun x d h=>h.1) aaO) fun ps b hb=>.bd rZ fun _ c hc=>.bd (aaQ FU [] 0 (fun f hf=>by cases hf) (Nat.le_refl _)) fun ls d hd=>.bd aa3 fun bo e he=>.bd (mf (by decide)) fun _ k hk=>.bd rZ fun _ j hj=>
 .rt ⟨ha.2,fun f hf=>by
  rcases List.mem_append.1 hf with hf|hf
  · exact(hb.1 f hf).2
  · exact hd.1 f hf,by have h1:=hb.2;have h2:=hd.2;show(ps++ls).length<=_;rw[List.length_append];omega,he.le jX⟩
theorem alK:cO aeU Fq:=(En aaA).imp fun _ _ _=>trivial
theorem alE:cO sLw law:=.bd mK fun s a ha=>.bd (mf (by decide)) fun _ b hb=>.bd (Q':=fun _ _=>True) (.see (.rt trivial) (.bd (En Jw) fun x c hc=>.rt trivial)) fun l c hc=>.bd (En (Td FU l)) fun ts d hd=>.bd aaP fun n e he=>.bd rZ fun _ k hk=>.rt ha.2
theorem alF:cO aeO Km:=.bd mK fun s a ha=>.bd mK fun f b hb=>.bd pR fun n c hc=>.bd rZ fun _ k hk=>.rt ⟨ha.2,hb.2⟩
theorem aaM {x:b_} {d:Nat} (h:kP x d):cO (fun y c=>kP y (d+c)) (Au x):=by
 have U:∀c,kP x (d+c):=fun c=>kP.up _ _ _ h jX;have m1:∀{α:Type} {P:α->Prop} (x:α) (a b:Nat),P x->a<=b->P x:=fun x a b h _=>h;exact
 .acc (by decide) (.bd aa6 fun y c hy=>.rt { U (1+(c+0)) with va:=h.va.snoc (fun _ _ _ h _=>h) hy jX }) <|
 .acc (by decide) (.bd alI fun y c hy=>.rt { U (1+(c+0)) with rs:=h.rs.snoc (fun _ _ _ h _=>h) hy jX }) <|
 .acc (by decide) (.bd alL fun y c hy=>.rt { U (1+(c+0)) with st:=h.st.snoc (fun _ _ _ h _=>h) hy jX }) <|
 .acc (by decide) (.bd alz fun y c hy=>.rt { U (1+(c+0)) with be:=h.be.snoc (fun _ _ _ h _=>h) hy jX }) <|
 .acc (by decide) (.bd Eo fun y c hy=>.rt { U (1+(c+0)) with qu:=h.qu.snoc (fun _ _ _ h _=>h) hy jX }) <|
 .acc (by decide) (.bd Eo fun y c hy=>.rt { U (1+(c+0)) with sm:=h.sm.snoc (fun _ _ _ h _=>h) hy jX }) <|
 .acc (by decide) (.bd Eo fun y c hy=>.rt { U (1+(c+0)) with ta:=h.ta.snoc (fun _ _ _ h _=>h) hy jX }) <|
 .acc (by decide) (.bd Eo fun y c hy=>.rt { U (1+(c+0)) with le:=h.le.snoc (fun _ _ _ h _=>h) hy jX }) <|
 .acc (by decide) (.bd Eo fun y c hy=>.rt { U (1+(c+0)) with co:=h.co.snoc (fun _ _ _ h _=>h) hy jX }) <|
 .acc (by decide) (.bd alH fun y c hy=>.rt { U (1+(c+0)) with ro:=h.ro.snoc Bl.le hy jX }) <|
 .acc (by decide) (.bd alK fun y c hy=>.rt { U (1+(c+0)) with ss:=h.ss.snoc (fun _ _ _ h _=>h) hy jX }) <|
 .acc (by decide) (.bd alE fun y c hy=>.rt { U (1+(c+0)) with la:=h.la.snoc (fun _ _ _ h _=>h) hy jX }) <|
 .fl
theorem ae_ {s:ByteArray} {d:Nat} (h:s.size<=20000):kP (Dr s) d:=⟨h,.nil,.nil,.nil,.nil,.nil,.nil,.nil,.nil,.nil,.nil,.nil,.nil⟩
theorem aa1:∀n x k,kP x k->cO (fun y d=>kP y (k+d)) (yF n x)
 | 0,_,_,_=>.fl
 | n+1,x,k,h=>.acc (by decide) (.rt (kP.up _ _ _ h jX)) (.bd (aaM h) fun y c hy=>(aa1 n y (k+c) hy).imp fun z d hz=>kP.up _ _ _ hz jX)
theorem alJ:cO kP sit:=.bd Eo fun s a ha=>.bd (aa1 FU (Dr s) 0 (ae_ ha)) fun x b hb=>.bd rZ fun _ c hc=>.rt (kP.up _ _ _ hb jX)
theorem aa0 {x:dx} {d:Nat} (h:qG x d):cO (fun y c=>qG y (d+c)) (prt x):=by
 have U:∀c,qG x (d+c):=fun c=>qG.up _ _ _ h jX;exact
 .acc (by decide) (.bd aa6 fun y c hy=>.rt { U (1+(c+0)) with pa:=h.pa.snoc (fun _ _ _ h _=>h) hy jX }) <|
 .acc (by decide) (.bd alF fun y c hy=>.rt { U (1+(c+0)) with li:=h.li.snoc (fun _ _ _ h _=>h) hy jX }) <|
 .acc (by decide) (.bd alJ fun y c hy=>.rt { U (1+(c+0)) with si:=h.si.snoc kP.up hy jX }) <|
 .fl
theorem aaT:∀n x k,qG x k->cO (fun y d=>qG y (k+d)) (AZ n x)
 | 0,_,_,_=>.fl
 | n+1,x,k,h=>.acc (by decide) (.rt (qG.up _ _ _ h jX)) (.bd (aa0 h) fun y c hy=>(aaT n y (k+c) hy).imp fun z d hz=>qG.up _ _ _ hz jX)
theorem Bl.z {x:eQ} {d:Nat} (h:Bl x d) (hd:d<=30000):MV x:=⟨ae h.nm (by decide),fun f hf=>ae (h.fl f hf) (by decide),ae h.ln jX,h.bo.Dw jX⟩
theorem kP.z {x:b_} {d:Nat} (h:kP x d) (hd:d<=30000):B_ x where
 va:=fun y hy=>ae (h.va.all y hy) (by decide)
 rs:=fun y hy=>ae (h.rs.all y hy) (by decide)
 st:=fun y hy=>ae (h.st.all y hy) (by decide)
 be:=fun y hy=>ae (h.be.all y hy) (by decide)
 qu:=fun y hy=>ae (h.qu.all y hy) (by decide)
 sm:=fun y hy=>ae (h.sm.all y hy) (by decide)
 ta:=fun y hy=>ae (h.ta.all y hy) (by decide)
 le:=fun y hy=>ae (h.le.all y hy) (by decide)
 co:=fun y hy=>ae (h.co.all y hy) (by decide)
 ro:=fun y hy=>(h.ro.all y hy).z hd
 la:=fun y hy=>ae (h.la.all y hy) (by decide)
 nm:=ae h.nm (by decide)
theorem kP.nw {x:b_} {d:Nat} (h:kP x d) (hd:d<=30000):RI x where
 nz:=⟨by have:=h.va.len;omega,by have:=h.rs.len;omega,by have:=h.st.len;omega,by have:=h.be.len;omega,by have:=h.ro.len;omega⟩
 nm:=fun l hl=>by
  simp only[names,List.mem_cons,List.mem_nil_iff,or_false] at hl;rcases hl with rfl|rfl|rfl|rfl|rfl|rfl|rfl|rfl|rfl|rfl
  · rw[List.length_map];have:=h.va.len;omega
  · rw[List.length_map];have:=h.rs.len;omega
  · rw[List.length_map];have:=h.st.len;omega
  · rw[List.length_map];have:=h.be.len;omega
  · have:=h.qu.len;omega
  · have:=h.sm.len;omega
  · have:=h.ta.len;omega
  · have:=h.le.len;omega
  · have:=h.co.len;omega
  · rw[List.length_map];have:=h.ro.len;omega
 ss:=by have:=h.ss.len;omega
 la:=by have:=h.la.len;omega
theorem qG.fit {x:dx} {d:Nat} (h:qG x d) (hd:d<=30000):Fit x where
 z:=⟨ae h.nm (by decide),fun y hy=>ae (h.pa.all y hy) (by decide),fun y hy=>(h.si.all y hy).z hd,fun l hl=>⟨ae (h.li.all l hl).1 (by decide),ae (h.li.all l hl).2 (by decide)⟩⟩
 n:=fun y hy=>(h.si.all y hy).nw hd
 c:=fun y hy r hr=>by have:=(((h.si.all y hy).ro.all r hr).bo).1;omega
theorem aom {t u:List Tk} {x:dx} (g:Gd t) (hl:t.length<=30000) (h:run vK t=.ok x u):Fit x:=by
 unfold vK at h
 cases h1:run (vL GD) t with
 | no v=>rw[fQ h1] at h;cases h
 | ok s t1=>
  obtain⟨g1,d1,e1,q1⟩:=(JB (s:=GD) (by decide)).out g h1;rw[fD h1] at h
  cases h2:run fU t1 with
  | no v=>rw[fQ h2] at h;cases h
  | ok a t2=>
   obtain⟨g2,d2,e2,q2⟩:=rZ.out g1 h2;rw[fD h2] at h
   cases h3:run (AZ FU ⟨s,[],[],[]⟩) t2 with
   | no v=>rw[fQ h3] at h;cases h
   | ok y t3=>
    obtain⟨g3,d3,e3,q3⟩:=(aaT FU ⟨s,[],[],[]⟩ 0 ⟨q1.2,.nil,.nil,.nil⟩).out g2 h3;rw[fD h3] at h;have e:x=y:=by
     cases h4:run fU t3 with
     | no v=>rw[fQ h4] at h;cases h
     | ok b t4=>
      rw[fD h4] at h
      cases h5:run q_ t4 with
      | no v=>rw[fQ h5] at h;cases h
      | ok c t5=>rw[fD h5,zL] at h;cases h;rfl
    subst e;exact q3.fit jX
end Ps
end Go.Proofs.YtbgodajefaahdaaGreatDoor
