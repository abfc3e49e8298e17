/-
  Parts of this proof: The contracts of the reader's rules for expressi. The contract of the reader's group. The contract of the reader's primary. The contracts of the reader's levels of an expre.
-/
import Derived.Test.YtkpekhpgdajabaaGreatDoorYTRow
open Go.Proofs.Tryz
open Go renaming bodyPost_ret->ae,Calls->ai,World->aj
open Go.Proofs.Tryz renaming prog->af
open Option renaming none->ag,some->ah
open Go.Lib renaming hid->U
set_option linter.unusedVariables false
set_option maxRecDepth 100000
set_option maxHeartbeats 2000000
open Go.Lib (hid)
namespace Go.Proofs.YtkpekhpgdajabaaGreatDoor
namespace Ps
open Ps.P (exp)
open Go.RowKit
open Lx (Tk)
open Ex (Ex bX)
open Md (bU)
theorem jI {a:Nat} {w w2:aj} {x:Ex} {p:Option Addr} {m:Nat} (h:bX (fun b=>a<b) w x p m) (hb:bS (fun b=>a<b) w w2):bX (fun b=>a<=b) w2 x p m:=by
 have hk:∀b,(fun b=>a<b) b->b<w.heap.size->(fun b=>a<=b) b/\w2.heap[b]?=w.heap[b]?:=fun b hg hlt=>⟨Nat.le_of_lt hg,hb.block b hlt hg⟩
 exact Ex.bX.map hb.size hk x h
theorem ja {a:Nat} {w w2:aj} {x:Ex} {p:Option Addr} {m:Nat} (h:bX (fun b=>a<b) w x p m) (hb:bS (fun b=>a<b) w w2):bX (fun b=>a<b) w2 x p m:=by
 have hk:∀b,(fun b=>a<b) b->b<w.heap.size->(fun b=>a<b) b/\w2.heap[b]?=w.heap[b]?:=fun b hg hlt=>⟨hg,hb.block b hlt hg⟩
 exact Ex.bX.map hb.size hk x h
structure XC (L:Lk) (g:Nat) (n:Nat):Prop where
 xe:∀W u,Rd L g u W->u.length<n->ai af 39 #[.pointer (ah ⟨g,0,ag⟩)] W (PO L g VX (run (fE n) u) W)
 xn:∀W u,Rd L g u W->u.length<n->ai af 117 #[.pointer (ah ⟨g,0,ag⟩)] W (PO L g VX (run (fN n) u) W)
 xf:∀W u,Rd L g u W->u.length<n->ai af 220 #[.pointer (ah ⟨g,0,ag⟩)] W (PO L g VX (run (fF n) u) W)
section
variable {L:Lk} {g:Nat} {t:List Tk} {n:Nat}
theorem T9 {p:Prop} (h:p:=by
 exact Al
 ):p:=h
theorem aaK (hX:XC L g n) (o:Int) (w:aj) (hR:Rd L g t w) (hn:t.length<=n):ai af 242 #[.pointer (ah ⟨g,0,ag⟩),.int .i64 o] w (PO L g VX (run (one (fE n) o) t) w):=by
 have HX:=U hX.xe;have HD:Hid (∀u,run (exp fU) t=.ok () u->u.length<n):=U fun u h=>by have:=((Dn.exp bR:Dn 1 (exp fU)).out hR.gd h).2;omega
 clear hX hn;refine eQ hR ?_;clear hR;intro r HS HR HB hg;have Z:=pW w;go_enter func242,ntmps242;go_wp2_with fail;refine po HS HB (gI _ _ (HR.out.low qe) bR) ?_;clear HS HB HR;rintro x1 u1 v1 w1 r1 HS b1 rfl HR HB;have hu:=U (HD.out _ r1);replace Z:=bV Z w1;clear b1 r1 HD;have hz1:=Z.out.lt;go_wp2_with fail;refine po HS HB (HX.out _ _ (HR.out.low qe) hu.out) ?_;clear HS HB HR;rintro x2 u2 v2 w2-HS b2 ⟨p2,m2,c2,rfl,k2⟩ HR HB;replace Z:=bV Z w2;clear b2;have jf:=jS k2 w.heap.size;clear k2;dsimp only [cu];have Y:=U (bU.new (w:=w2) (t:=25) (c:=cu x2 p2 m2 c2));dsimp only [cu] at Y;have hz2:=Z.out.lt;go_wp2_with fail;refine po HS HB (gI _ _ (HR.out.low qe) bR) ?_;clear HS HB HR;rintro x3 u3 v3 w3-HS b3 rfl HR HB;replace Z:=bV Z w3;replace Y:=bV Y w3;replace jf:=U (ja (w2:=w3) jf.out qe);clear b3;obtain⟨l0,l1,l2,l3,-⟩:=dM Y.out;go_wp2_with fail;refine gi HR HB (xg _ _ _ _ _) ?_;clear HR HB;rintro w4 b4 hb4 HR HB;have hz3:=Z.out.lt;have KN:Hid (bX (fun b=>w.heap.size<b) w4 (jq o x2) (ah ⟨w3.heap.size,0,ag⟩) 1):=U (Ex.bX.map hb4.size (fun b hb hlt=>⟨hb,hb4.block b hlt⟩) _ (H9 (c:=c2) o jf.out hz3));replace Z:=bV Z w4;clear b4;clear hb4 l0 l1 l2 l3;obtain⟨y0,y1,y2,y3,fz⟩:=dM Z.out;go_wp2_with fail;have bY:=HB.out;refine ae (v:=.agg (cu (jq o x2) (ah ⟨w3.heap.size,0,ag⟩) 1 1)) ?_ rfl (PO.ok (dz HS) qe ⟨(ah ⟨w3.heap.size,0,ag⟩),1,1,rfl,?_⟩ (HR.out.low qe))
 · exact T9
 · exact Js
theorem aaL (hX:XC L g n) (o:Int) (w:aj) (hR:Rd L g t w) (hn:t.length<=n):ai af 243 #[.pointer (ah ⟨g,0,ag⟩),.int .i64 o] w (PO L g VX (run (two (fE n) o) t) w):=by
 have HX:=U hX.xe;have HD:Hid (∀u,run (exp fU) t=.ok () u->u.length<n):=U fun u h=>by have:=((Dn.exp bR:Dn 1 (exp fU)).out hR.gd h).2;omega
 have HD2:Hid (∀u v x,Gd u->u.length<n->run (fE n) u=.ok x v->v.length<n):=U fun u v x hg hl h=>by have:=((P6 n).out hg h).2;omega
 have HD3:Hid (∀u v,Gd u->u.length<n->run (exp ry) u=.ok () v->v.length<n):=U fun u v hg hl h=>by have:=((Dn.exp bR:Dn 1 (exp ry)).out hg h).2;omega
 clear hX hn;refine eQ hR ?_;clear hR;intro r HS HR HB hg;have Z:=pW w;go_enter func243,ntmps243;go_wp2_with fail;refine po HS HB (gI _ _ (HR.out.low qe) bR) ?_;clear HS HB HR;rintro x1 u1 v1 w1 r1 HS b1 rfl HR HB;have hu:=U (HD.out _ r1);replace Z:=bV Z w1;clear b1 r1 HD;have hz1:=Z.out.lt;go_wp2_with fail;refine po HS HB (HX.out _ _ (HR.out.low qe) hu.out) ?_;clear HS HB;rintro x2 u2 v2 w2 r2 HS b2 ⟨p2,m2,c2,rfl,k2⟩ R2 HB;replace hu:=U (HD2.out _ _ _ HR.out.gd hu.out r2);replace Z:=bV Z w2;replace HR:=R2;clear b2 r2 HD2;have jf:=jS k2 w.heap.size;clear k2;dsimp only [cu];have Y:=U (bU.new (w:=w2) (t:=25) (c:=cu x2 p2 m2 c2));dsimp only [cu] at Y;have hz2:=Z.out.lt;go_wp2_with fail;refine po HS HB (gI _ _ (HR.out.low qe) bR) ?_;clear HS HB;rintro x3 u3 v3 w3 r3 HS b3 rfl R3 HB;replace hu:=U (HD3.out _ _ HR.out.gd hu.out r3);replace Z:=bV Z w3;replace Y:=bV Y w3;replace jf:=U (ja (w2:=w3) jf.out qe);replace HR:=R3;clear b3 r3 HD3;have hz3:=Z.out.lt;have hy3:=Y.out.lt;go_wp2_with fail;refine po HS HB (HX.out _ _ (HR.out.low qe) hu.out) ?_;clear HS HB HR;rintro x4 u4 v4 w4-HS b4 ⟨p4,m4,c4,rfl,k4⟩ HR HB;replace Z:=bV Z w4;replace Y:=bV Y w4;replace jf:=U (ja (w2:=w4) jf.out qe);clear b4;have Oz:=jS k4 w.heap.size;clear k4;dsimp only [cu];have X:=U (bU.new (w:=w4) (t:=25) (c:=cu x4 p4 m4 c4));dsimp only [cu] at X;have qU:=Z.out.lt;have hy4:=Y.out.lt;go_wp2_with fail;refine po HS HB (gI _ _ (HR.out.low qe) bR) ?_;clear HS HB HR;rintro x5 u5 v5 w5-HS b5 rfl HR HB;replace Z:=bV Z w5;replace Y:=bV Y w5;replace jf:=U (ja (w2:=w5) jf.out qe);replace Oz:=U (ja (w2:=w5) Oz.out qe);replace X:=bV X w5;clear b5;obtain⟨l0,l1,l2,l3,-⟩:=dM Y.out;obtain⟨j0,j1,j2,j3,-⟩:=dM X.out;go_wp2_with fail;refine gi HR HB (xg _ _ _ _ _) ?_;clear HR HB;rintro w6 b6 hb6 HR HB;have Q7:=Z.out.lt;have KN:Hid (bX (fun b=>w.heap.size<b) w6 (dZ o x2 x4) (ah ⟨w5.heap.size,0,ag⟩) 2):=U (Ex.bX.map hb6.size (fun b hb hlt=>⟨hb,hb6.block b hlt⟩) _ (wS (c:=c2) (d:=c4) o jf.out Oz.out Q7));replace Z:=bV Z w6;clear b6;clear hb6 l0 l1 l2 l3 j0 j1 j2 j3;obtain⟨y0,y1,y2,y3,fz⟩:=dM Z.out;go_wp2_with fail;have bY:=HB.out;refine ae (v:=.agg (cu (dZ o x2 x4) (ah ⟨w5.heap.size,0,ag⟩) 2 2)) ?_ rfl (PO.ok (dz HS) qe ⟨(ah ⟨w5.heap.size,0,ag⟩),2,2,rfl,?_⟩ (HR.out.low qe))
 · exact T9
 · exact Js
theorem RJ (o:Int) (w:aj) (hR:Rd L g t w):ai af 244 #[.pointer (ah ⟨g,0,ag⟩),.int .i64 o] w (PO L g VX (run (tH o) t) w):=by
 refine eQ hR ?_;clear hR;intro r HS HR HB hg;have Z:=pW w;go_enter func244,ntmps244;go_wp2_with fail;refine po HS HB (gI _ _ (HR.out.low qe) bR) ?_;clear HS HB HR;rintro x1 u1 v1 w1-HS b1 rfl HR HB;replace Z:=bV Z w1;clear b1;have hz1:=Z.out.lt;go_wp2_with fail;refine po HS HB (jo _ (HR.out.low qe)) ?_;clear HS HB HR;rintro x2 u2 v2 w2-HS b2 rfl HR HB;replace Z:=bV Z w2;clear b2;have hz2:=Z.out.lt;go_wp2_with fail;refine po HS HB (gI _ _ (HR.out.low qe) bR) ?_;clear HS HB HR;rintro x3 u3 v3 w3-HS b3 rfl HR HB;replace Z:=bV Z w3;clear b3;have hz3:=Z.out.lt;obtain⟨y0,y1,y2,y3,fz⟩:=dM Z.out;have KN:Hid (bX (fun b=>w.heap.size<b) w3 (rQ o x2) ag 0):=U bX.zero;go_wp2_with fail;have bY:=HB.out;refine ae (v:=.agg (cu (rQ o x2) (ag) 0 0)) ?_ rfl (PO.ok (dz HS) qe ⟨(ag),0,0,rfl,?_⟩ (HR.out.low qe))
 · exact T9
 · exact Js
end
end Ps
namespace Ps
open Ps.P (rt bd exp len)
open Go.RowKit
open Lx (Tk)
open Ex (Ex bX nI Ez)
open Md (bU)
theorem akp {d:Nat} {e:Ex} (h:¬d=4∨¬e.o=5):neg d e=e:=by
 unfold neg
 split
 · rcases h with h|h
   · exact absurd rfl h
   · exact absurd rfl h
 · rfl
theorem akr {s:ByteArray} {m:Int} {y:Ex} (h:¬y.o=1):neg 4 (.mk 5 s m [y])=.mk 5 s m [y]:=by
 unfold neg
 split
 · rename_i h1;injection h1 with _ _ _ h1;injection h1 with h1;rw[h1] at h;exact absurd rfl h
 · rfl
theorem aks {s:ByteArray} {m:Int} {y:Ex} (h:y.o=1):neg 4 (.mk 5 s m [y])=fO 1 (-y.n):=by
 obtain⟨o,s',n',l'⟩:=y;have h:o=1:=h;subst h;rfl
section
variable {L:Lk} {g:Nat} {t:List Tk} {n:Nat}
theorem T_ {p:Prop} (h:p:=by
 exact Al
 ):p:=h
theorem acH {p:Prop} (h:p:=by
 obtain⟨l0,l1,l2,l3,-⟩:=dM Y.out;obtain⟨y0,y1,y2,y3,fz⟩:=dM Z.out;go_wp2_with fail;have bY:=HB.out;refine ae (v:=.agg (cu (x2) (p2) m2 c2)) ?_ rfl (PO.ok (by rw[HG.out.2 _ _ (dz HS),uh.out,akp U6.out]) qe ⟨(p2),m2,c2,rfl,?_⟩ (HR.out.low qe))
 · exact T_
 · have KK:=jf.out;exact jI KK qe
 ):p:=h
theorem aiR (hX:XC L g n) (hQ:∀u x v,Gd u->run (fE n) u=.ok x v->x.o=5->∃s m y,x=.mk 5 s m [y]/\-1000000000000<=y.n/\y.n<=1000000000000) (w:aj) (hR:Rd L g t w) (hn:t.length<=n):ai af 245 #[.pointer (ah ⟨g,0,ag⟩)] w (PO L g VX (run (yA (fE n)) t) w):=by
 have HX:=U hX.xe;have HD:Hid (∀u,run (exp fU) t=.ok () u->u.length<n/\u.length+1=t.length):=U fun u h=>by
  have h1:=((Dn.exp bR:Dn 1 (exp fU)).out hR.gd h).2;have h2:=hR.gd.ne
  cases hi:is fU t with
  | true=>rw[EF hi] at h;cases h;have:=List.length_tail (l:=t);omega
  | false=>rw[KO hi] at h;cases h
 have HQ:=U hQ;have Ao:=U hR.len;have HFW:=U hR.few;have h1:=hR.c1;obtain⟨rr,hrr⟩:∃rr,run (yA (fE n)) t=rr:=⟨_,rfl⟩
 rw[hrr];unfold yA at hrr;obtain⟨r,hr⟩:∃r,run (bd (exp fU) fun _=>bd (fE n) fun e=>bd (exp jN) fun _=>rt e) t=r:=⟨_,rfl⟩
 have HG:Hid ((∀u,r=.no u->rr=.no u)/\∀x u,r=.ok x u->rr=.ok (neg (t.length-u.length) x) u):=U ⟨fun u h=>hrr.symm.trans (LQ (hr.trans h)),fun x u h=>hrr.symm.trans (Ij (hr.trans h))⟩;have HS:=U hr;have hg:=hR.blk;have HR:=U hR;have HB:Hid (Bt g w w):=U (bS.refl _ _);obtain⟨j,hj⟩:∃j,L.at t=j:=⟨_,rfl⟩
 have HJ:=U hj;rw[hj] at h1;clear hX hQ hn hr hrr hR hj;have Z:=pW w;have h1':(w.alloc (.cells #[.int .i64 0,.string ⟨#[]⟩,.int .i64 0,.slice ag 0 0] 25)).cell? ⟨g,1,ag⟩=ah (.int .i64 (j:Int)):=by
  have hq:=HR.out.c1;rw[HJ.out] at hq;rw[World.cell?_of_block (w:=w) (a:=⟨g,1,ag⟩) (by show(w.heap.push _)[g]?=_;rw[Array.getElem?_push,if_neg bT])];exact hq
 clear h1;go_enter func245,ntmps245;go_wp2_with fail;clear h1';refine(gI _ _ (HR.out.low qe) bR).mono ?_;rintro e w1 h1;rcases h1.cases with⟨x1,u1,v1,r1,rfl,b1,V1,R1⟩|⟨u1,r1,rfl,b1⟩
 rotate_left 1
 · have bY:=HB.out;go_wp2_with fail;exact⟨rfl,PO.no (HG.out.1 _ (fw HS r1)) qe⟩
 replace HS:=eY HS r1;replace Z:=bV Z w1;replace HB:=eu HB w1;replace HR:=U R1;clear b1 R1;clear h1;have hu:=U (HD.out _ r1);clear r1 HD;obtain rfl:=V1;have hz1:=Z.out.lt;go_wp2_with fail;have G1:=U HR.out.gd;refine(HX.out _ _ (HR.out.low qe) hu.out.1).mono ?_;rintro e w2 h2;rcases h2.cases with⟨x2,u2,v2,r2,rfl,b2,V2,R2⟩|⟨u2,r2,rfl,b2⟩
 rotate_left 1
 · have bY:=HB.out;go_wp2_with fail;exact⟨rfl,PO.no (HG.out.1 _ (fw HS r2)) qe⟩
 replace HS:=eY HS r2;replace Z:=bV Z w2;replace HB:=eu HB w2;replace HR:=U R2;clear b2 R2;clear h2;obtain⟨p2,m2,c2,rfl,k2⟩:=V2;have jf:=jS k2 w.heap.size;clear k2;dsimp only [cu];have Ou:Hid (x2.o=5->∃s m y,x2=.mk 5 s m [y]/\-1000000000000<=y.n/\y.n<=1000000000000):=U (HQ.out _ _ _ G1.out r2);have Y:=U (bU.new (w:=w2) (t:=25) (c:=cu x2 p2 m2 c2));dsimp only [cu] at Y;have hz2:=Z.out.lt;have hle2:=U ((P6 n).out G1.out r2).2;have G2:=U HR.out.gd;clear r2 G1 HQ;go_wp2_with fail;refine(gI _ _ (HR.out.low qe) bR).mono ?_;rintro e w3 h3;rcases h3.cases with⟨x3,u3,v3,r3,rfl,b3,V3,R3⟩|⟨u3,r3,rfl,b3⟩
 rotate_left 1
 · have bY:=HB.out;go_wp2_with fail;exact⟨rfl,PO.no (HG.out.1 _ (fw HS r3)) qe⟩
 replace HS:=eY HS r3;replace Z:=bV Z w3;replace Y:=bV Y w3;replace jf:=U (ja (w2:=w3) jf.out qe);replace HB:=eu HB w3;replace HR:=U R3;clear b3 R3;clear h3;have hle3:=U ((Dn.exp bR:Dn 1 (exp jN)).out G2.out r3).2;clear r3;obtain rfl:=V3;have hz3:=Z.out.lt;have hy3:=Y.out.lt;have n1:=HR.out.c1;obtain⟨j3,QW⟩:∃j3,L.at u3=j3:=⟨_,rfl⟩
 rw[QW] at n1;obtain⟨d,hd⟩:∃d,t.length-u3.length=d:=⟨_,rfl⟩
 have hlen:=HR.out.len.1;have Zh:=Ao.out.1;have lU:=HFW.out;have hJ:=HJ.out;rw[QW] at hlen;rw[hJ] at Zh;have hle:u3.length<=t.length:=by have h1:=hle2.out;have h2:=hu.out;have h3:=hle3.out;omega
 have hw:IntKind.i64.wrap ((j3:Int)-(j:Int))=(d:Int):=by rw[IntKind.wrap_i64];omega
 have uh:=U hd;clear QW hd hlen Zh lU hJ hle;by_cases h4:d=4
 · have b4:((d:Int)==4)=true:=by simp[h4]
   by_cases h5:x2.o=5
   · obtain⟨s5,m5,y,hxy,yl,yh⟩:=Ou.out h5;subst hxy;subst h4;obtain⟨kl,km,k0|⟨b,o',rfl,hgb,hbl,hcc⟩⟩:=nI.1 jf.out
     · have kl:1=m2:=kl;omega
     have kl:1=m2:=kl;subst kl;obtain⟨q,jj,cc,hc4,hkk⟩:=hcc.out 0 cK;obtain⟨e0,e1,e2,e3⟩:=hc4;simp only[Nat.zero_mul,Nat.add_zero,List.getElem_cons_zero] at e0 e1 e2 e3;have b5:((5:Int)==5)=true:=rfl;obtain⟨l0,l1,l2,l3,-⟩:=dM Y.out;simp only[Ex.o,Ex.s,Ex.n] at l0 l1 l2;by_cases h6:y.o=1
     · have b6:(y.o==1)=true:=by simp[h6]
       have hw2:wrap64 (-y.n) = -y.n:=by unfold wrap64;omega
       have Oq:Hid (neg 4 (Ex.mk 5 s5 m5 [y])=fO 1 (-y.n)):=U (aks h6);clear h5 h6 e1 e3 hkk hcc;go_wp2_with fail;refine gi HR HB (Ez (-y.n) _) ?_;clear HR HB;rintro w4 b4-HR HB;replace Z:=bV Z w4;clear b4;obtain⟨y0,y1,y2,y3,fz⟩:=dM Z.out;go_wp2_with fail;have KC:Hid (bX (fun b=>w.heap.size<b) w4 (fO 1 (-y.n)) ag 0):=U Ex.bX.zero;have bY:=HB.out;refine ae (v:=.agg (cu (fO 1 (-y.n)) (ag) 0 0)) ?_ rfl (PO.ok (by rw[HG.out.2 _ _ (dz HS),uh.out,Oq.out]) qe ⟨(ag),0,0,rfl,?_⟩ (HR.out.low qe))
       · exact T_
       · exact Gc
     · have b6:(y.o==1)=false:=by simp[h6]
       have Oq:Hid (neg 4 (Ex.mk 5 s5 m5 [y])=Ex.mk 5 s5 m5 [y]):=U (akr h6);clear h5 h6 e1 e3 e2 hkk hcc;obtain⟨y0,y1,y2,y3,fz⟩:=dM Z.out;go_wp2_with fail;have bY:=HB.out;refine ae (v:=.agg (cu (Ex.mk 5 s5 m5 [y]) (ah ⟨b,o',ag⟩) 1 c2)) ?_ rfl (PO.ok (by rw[HG.out.2 _ _ (dz HS),uh.out,Oq.out]) qe ⟨(ah ⟨b,o',ag⟩),1,c2,rfl,?_⟩ (HR.out.low qe))
       · exact T_
       · have KK:=jf.out;exact jI KK qe
   · have b5:(x2.o==5)=false:=by simp[h5]
     have U6:Hid (¬d=4∨¬x2.o=5):=U (.inr h5);clear h4 h5;exact acH
 · have b4:((d:Int)==4)=false:=by simp;omega
   have U6:Hid (¬d=4∨¬x2.o=5):=U (.inl h4);clear h4;exact acH
end
end Ps
namespace Ps
open Go.RowKit
open Lx (Tk)
open Ex (Ex bX nI Ez PT Ko)
theorem WA {n:Int} (h:n=0∨n=1):Ko 2 n=fO 2 n:=by
 rcases h with rfl|rfl <;> rfl
section
variable {L:Lk} {g:Nat} {t:List Tk} {n:Nat}
theorem ru {p:Prop} (h:p:=by
 exact Al
 ):p:=h
theorem alp (hX:XC L g n) (hQ:∀u x v,Gd u->run (fE n) u=.ok x v->x.o=5->∃s m y,x=.mk 5 s m [y]/\-1000000000000<=y.n/\y.n<=1000000000000) (w:aj) (hR:Rd L g t w) (hn:t.length<=n):ai af 228 #[.pointer (ah ⟨g,0,ag⟩)] w (PO L g VX (run (qw (fE n)) t) w):=by
 have HX:=U hX;have HQ:=U hQ;have HN:=U hn;have JI:Hid (t.tail.length<=n):=U (by rw[List.length_tail];omega);have fk:=KY (hd t).k (hd t).n (hd t).l (hd t).t;clear hX hQ hn;refine eQ hR ?_;clear hR;intro r HS HR HB hg;have Z:=pW w;go_enter func228,ntmps228;go_wp2_with fail;refine gi HR HB (yU _ (HR.out.low qe)) ?_;clear HR HB;rintro w1 b1-HR HB;replace Z:=bV Z w1;clear b1;unfold tv;have hz1:=Z.out.lt;by_cases hk:(hd t).k=2
 · have e1:((hd t).k==2)=true:=by simp[hk]
   replace HS:=SV HS hk;clear hk;go_wp2_with fail;clear fk e1;refine po HS HB (kV _ (HR.out.low qe)) ?_;clear HS HB HR;rintro x2 u2 v2 w2-HS b2 ⟨rfl,n0,n1⟩ HR HB;replace Z:=bV Z w2;clear b2;go_wp2_with fail;refine gi HR HB (Ez x2 _) ?_;clear HR HB;rintro w4 b4-HR HB;replace Z:=bV Z w4;clear b4;obtain⟨y0,y1,y2,y3,fz⟩:=dM Z.out;go_wp2_with fail;have KC:Hid (bX (fun b=>w.heap.size<b) w4 (fO 1 x2) ag 0):=U Ex.bX.zero;have bY:=HB.out;refine ae (v:=.agg (cu (fO 1 x2) (ag) 0 0)) ?_ rfl (PO.ok (dz HS) qe ⟨(ag),0,0,rfl,?_⟩ (HR.out.low qe))
   · exact ru
   · exact Gc
 have e1:((hd t).k==2)=false:=by simp[hk]
 replace HS:=SX HS hk;clear hk;go_wp2_with fail;clear fk e1;refine gi HR HB (oz sU _ (HR.out.low qe)) ?_;clear HR HB;rintro w2 b2-HR HB;replace Z:=bV Z w2;clear b2
 cases i2:is sU t
 rotate_left 1
 · replace HS:=DI HS i2;clear i2;go_wp2_with fail;refine po HS HB (MX _ (HR.out.low qe)) ?_;clear HS HB HR;rintro x3 u3 v3 w3-HS b3 ⟨rfl,n0⟩ HR HB;replace Z:=bV Z w3;clear b3;go_wp2_with fail;refine(PT 2 x3 _).mono ?_;rintro e w4 ⟨p4,m4,c4,rfl,hk4,hb4⟩;rw[WA n0] at hk4 ⊢;obtain rfl:0=m4:=(nI.1 hk4).1;have b4:Bt g _ w4:=bS.of hb4;have R4:Rd L g u3 w4:=HR.out.low (zL hb4);replace Z:=bV Z w4;replace HB:=eu HB w4;replace HR:=U R4;clear b4 R4;clear hb4 hk4;obtain⟨y0,y1,y2,y3,fz⟩:=dM Z.out;go_wp2_with fail;have KC:Hid (bX (fun b=>w.heap.size<b) w4 (fO 2 x3) p4 0):=U Ex.bX.zero;have bY:=HB.out;refine ae (v:=.agg (cu (fO 2 x3) (p4) 0 c4)) ?_ rfl (PO.ok (dz HS) qe ⟨(p4),0,c4,rfl,?_⟩ (HR.out.low qe))
   · exact ru
   · exact Gc
 replace HS:=DF HS i2;clear i2;go_wp2_with fail;refine gi HR HB (oz vC _ (HR.out.low qe)) ?_;clear HR HB;rintro w3 b3-HR HB;replace Z:=bV Z w3;clear b3
 cases i3:is vC t
 rotate_left 1
 · replace HS:=DI HS i3;clear i3;go_wp2_with fail;refine po HS HB (MX _ (HR.out.low qe)) ?_;clear HS HB HR;rintro x4 u4 v4 w4-HS b4 ⟨rfl,n0⟩ HR HB;replace Z:=bV Z w4;clear b4;go_wp2_with fail;refine(PT 2 x4 _).mono ?_;rintro e w5 ⟨p5,m5,c5,rfl,hk5,hb5⟩;rw[WA n0] at hk5 ⊢;obtain rfl:0=m5:=(nI.1 hk5).1;have b5:Bt g _ w5:=bS.of hb5;have R5:Rd L g u4 w5:=HR.out.low (zL hb5);replace Z:=bV Z w5;replace HB:=eu HB w5;replace HR:=U R5;clear b5 R5;clear hb5 hk5;obtain⟨y0,y1,y2,y3,fz⟩:=dM Z.out;go_wp2_with fail;have KC:Hid (bX (fun b=>w.heap.size<b) w5 (fO 2 x4) p5 0):=U Ex.bX.zero;have bY:=HB.out;refine ae (v:=.agg (cu (fO 2 x4) (p5) 0 c5)) ?_ rfl (PO.ok (dz HS) qe ⟨(p5),0,c5,rfl,?_⟩ (HR.out.low qe))
   · exact ru
   · exact Gc
 replace HS:=DF HS i3;clear i3;go_wp2_with fail;refine ac HS HB (dD H6 _ (HR.out.low qe) bR) ?_ ?_
 · clear HS HB HR;rintro w4-HS b4 HR HB;replace Z:=bV Z w4;clear b4;obtain⟨y0,y1,y2,y3,fz⟩:=dM Z.out;go_wp2_with fail;have KC:Hid (bX (fun b=>w.heap.size<b) w4 (nd0 4) ag 0):=U Ex.bX.zero;have bY:=HB.out;refine ae (v:=.agg (cu (nd0 4) (ag) 0 0)) ?_ rfl (PO.ok (dz HS) qe ⟨(ag),0,0,rfl,?_⟩ (HR.out.low qe))
   · exact ru
   · exact Gc
 clear HS HB HR;rintro w4-HS b4 HR HB;replace Z:=bV Z w4;clear b4;go_wp2_with fail;refine ac HS HB (dD Lv _ (HR.out.low qe) bR) ?_ ?_
 · clear HS HB HR;rintro w5-HS b5 HR HB;replace Z:=bV Z w5;clear b5;go_wp2_with fail;have hz6:=Z.out.lt;refine pl HS HB (aaK HX.out 7 _ (HR.out.low qe) JI.out) ?_;clear HB HR;rintro x6 u6 v6 w6-HL6 b6 ⟨p6,m6,c6,rfl,k6⟩ HR HB;replace Z:=bV Z w6;clear b6;have KX6:=jS k6 w.heap.size;clear k6;dsimp only [cu];obtain⟨y0,y1,y2,y3,fz⟩:=dM Z.out;go_wp2_with fail;have bY:=HB.out;refine ae (v:=.agg (cu (x6) (p6) m6 c6)) ?_ rfl (PO.ok HL6.out qe ⟨(p6),m6,c6,rfl,?_⟩ (HR.out.low qe))
   · exact ru
   · have KK:=KX6.out;exact jI KK qe
 clear HS HB HR;rintro w5-HS b5 HR HB;replace Z:=bV Z w5;clear b5;go_wp2_with fail;refine ac HS HB (dD LH _ (HR.out.low qe) bR) ?_ ?_
 · clear HS HB HR;rintro w6-HS b6 HR HB;replace Z:=bV Z w6;clear b6;go_wp2_with fail;have hz7:=Z.out.lt;refine pl HS HB (aaK HX.out 8 _ (HR.out.low qe) JI.out) ?_;clear HB HR;rintro x7 u7 v7 w7-HL7 b7 ⟨p7,m7,c7,rfl,k7⟩ HR HB;replace Z:=bV Z w7;clear b7;have KX7:=jS k7 w.heap.size;clear k7;dsimp only [cu];obtain⟨y0,y1,y2,y3,fz⟩:=dM Z.out;go_wp2_with fail;have bY:=HB.out;refine ae (v:=.agg (cu (x7) (p7) m7 c7)) ?_ rfl (PO.ok HL7.out qe ⟨(p7),m7,c7,rfl,?_⟩ (HR.out.low qe))
   · exact ru
   · have KK:=KX7.out;exact jI KK qe
 clear HS HB HR;rintro w6-HS b6 HR HB;replace Z:=bV Z w6;clear b6;go_wp2_with fail;refine ac HS HB (dD LD _ (HR.out.low qe) bR) ?_ ?_
 · clear HS HB HR;rintro w7-HS b7 HR HB;replace Z:=bV Z w7;clear b7;go_wp2_with fail;have hz8:=Z.out.lt;refine pl HS HB (aaL HX.out 20 _ (HR.out.low qe) JI.out) ?_;clear HB HR;rintro x8 u8 v8 w8-HL8 b8 ⟨p8,m8,c8,rfl,k8⟩ HR HB;replace Z:=bV Z w8;clear b8;have KX8:=jS k8 w.heap.size;clear k8;dsimp only [cu];obtain⟨y0,y1,y2,y3,fz⟩:=dM Z.out;go_wp2_with fail;have bY:=HB.out;refine ae (v:=.agg (cu (x8) (p8) m8 c8)) ?_ rfl (PO.ok HL8.out qe ⟨(p8),m8,c8,rfl,?_⟩ (HR.out.low qe))
   · exact ru
   · have KK:=KX8.out;exact jI KK qe
 clear HS HB HR;rintro w7-HS b7 HR HB;replace Z:=bV Z w7;clear b7;go_wp2_with fail;refine ac HS HB (dD LC _ (HR.out.low qe) bR) ?_ ?_
 · clear HS HB HR;rintro w8-HS b8 HR HB;replace Z:=bV Z w8;clear b8;go_wp2_with fail;have hz9:=Z.out.lt;refine pl HS HB (aaL HX.out 21 _ (HR.out.low qe) JI.out) ?_;clear HB HR;rintro x9 u9 v9 w9-HL9 b9 ⟨p9,m9,c9,rfl,k9⟩ HR HB;replace Z:=bV Z w9;clear b9;have KX9:=jS k9 w.heap.size;clear k9;dsimp only [cu];obtain⟨y0,y1,y2,y3,fz⟩:=dM Z.out;go_wp2_with fail;have bY:=HB.out;refine ae (v:=.agg (cu (x9) (p9) m9 c9)) ?_ rfl (PO.ok HL9.out qe ⟨(p9),m9,c9,rfl,?_⟩ (HR.out.low qe))
   · exact ru
   · have KK:=KX9.out;exact jI KK qe
 clear HS HB HR;rintro w8-HS b8 HR HB;replace Z:=bV Z w8;clear b8;go_wp2_with fail;refine ac HS HB (dD LA _ (HR.out.low qe) bR) ?_ ?_
 · clear HS HB HR;rintro w9-HS b9 HR HB;replace Z:=bV Z w9;clear b9;go_wp2_with fail;have aoG:=Z.out.lt;refine pl HS HB (RJ 22 _ (HR.out.low qe)) ?_;clear HB HR;rintro Jg jc v10 fT-ad7 b10 ⟨o8,m10,c10,rfl,k10⟩ HR HB;replace Z:=bV Z fT;clear b10;have aec:=jS k10 w.heap.size;clear k10;dsimp only [cu];obtain⟨y0,y1,y2,y3,fz⟩:=dM Z.out;go_wp2_with fail;have bY:=HB.out;refine ae (v:=.agg (cu (Jg) (o8) m10 c10)) ?_ rfl (PO.ok ad7.out qe ⟨(o8),m10,c10,rfl,?_⟩ (HR.out.low qe))
   · exact ru
   · have KK:=aec.out;exact jI KK qe
 clear HS HB HR;rintro w9-HS b9 HR HB;replace Z:=bV Z w9;clear b9;go_wp2_with fail;refine ac HS HB (dD LG _ (HR.out.low qe) bR) ?_ ?_
 · clear HS HB HR;rintro fT-HS b10 HR HB;replace Z:=bV Z fT;clear b10;go_wp2_with fail;have aoH:=Z.out.lt;refine pl HS HB (RJ 23 _ (HR.out.low qe)) ?_;clear HB HR;rintro x11 jV v11 ku-ad8 b11 ⟨Ff,m11,c11,rfl,k11⟩ HR HB;replace Z:=bV Z ku;clear b11;have aed:=jS k11 w.heap.size;clear k11;dsimp only [cu];obtain⟨y0,y1,y2,y3,fz⟩:=dM Z.out;go_wp2_with fail;have bY:=HB.out;refine ae (v:=.agg (cu (x11) (Ff) m11 c11)) ?_ rfl (PO.ok ad8.out qe ⟨(Ff),m11,c11,rfl,?_⟩ (HR.out.low qe))
   · exact ru
   · have KK:=aed.out;exact jI KK qe
 clear HS HB HR;rintro fT-HS b10 HR HB;replace Z:=bV Z fT;clear b10;go_wp2_with fail;refine ac HS HB (dD LJ _ (HR.out.low qe) bR) ?_ ?_
 · clear HS HB HR;rintro ku-HS b11 HR HB;replace Z:=bV Z ku;clear b11;go_wp2_with fail;have aoI:=Z.out.lt;refine pl HS HB (RJ 24 _ (HR.out.low qe)) ?_;clear HB HR;rintro x12 lJ v12 vQ-ad9 b12 ⟨IG,m12,c12,rfl,k12⟩ HR HB;replace Z:=bV Z vQ;clear b12;have aee:=jS k12 w.heap.size;clear k12;dsimp only [cu];obtain⟨y0,y1,y2,y3,fz⟩:=dM Z.out;go_wp2_with fail;have bY:=HB.out;refine ae (v:=.agg (cu (x12) (IG) m12 c12)) ?_ rfl (PO.ok ad9.out qe ⟨(IG),m12,c12,rfl,?_⟩ (HR.out.low qe))
   · exact ru
   · have KK:=aee.out;exact jI KK qe
 clear HS HB HR;rintro ku-HS b11 HR HB;replace Z:=bV Z ku;clear b11;go_wp2_with fail;refine gi HR HB (oz fU _ (HR.out.low qe)) ?_;clear HR HB;rintro vQ b12-HR HB;replace Z:=bV Z vQ;clear b12
 cases i12:is fU t
 rotate_left 1
 · replace HS:=DI HS i12;clear i12;go_wp2_with fail;have aoJ:=Z.out.lt;refine pl HS HB (aiR HX.out HQ.out _ (HR.out.low qe) HN.out) ?_;clear HB HR;rintro Ng kW v13 FC-ad_ b13 ⟨p13,m13,c13,rfl,k13⟩ HR HB;replace Z:=bV Z FC;clear b13;have aef:=jS k13 w.heap.size;clear k13;dsimp only [cu];obtain⟨y0,y1,y2,y3,fz⟩:=dM Z.out;go_wp2_with fail;have bY:=HB.out;refine ae (v:=.agg (cu (Ng) (p13) m13 c13)) ?_ rfl (PO.ok ad_.out qe ⟨(p13),m13,c13,rfl,?_⟩ (HR.out.low qe))
   · exact ru
   · have KK:=aef.out;exact jI KK qe
 replace HS:=DF HS i12;clear i12;go_wp2_with fail;refine po HS HB (jo _ (HR.out.low qe)) ?_;clear HS HB HR;rintro Ng kW v13 FC-HS b13 rfl HR HB;replace Z:=bV Z FC;clear b13;obtain⟨y0,y1,y2,y3,fz⟩:=dM Z.out;go_wp2_with fail;have KC:Hid (bX (fun b=>w.heap.size<b) FC (rQ 3 Ng) ag 0):=U Ex.bX.zero;have bY:=HB.out;refine ae (v:=.agg (cu (rQ 3 Ng) (ag) 0 0)) ?_ rfl (PO.ok (dz HS) qe ⟨(ag),0,0,rfl,?_⟩ (HR.out.low qe))
 · exact ru
 · exact Gc
theorem ah5 (hX:XC L g n) (hQ:∀u x v,Gd u->run (fE n) u=.ok x v->x.o=5->∃s m y,x=.mk 5 s m [y]/\-1000000000000<=y.n/\y.n<=1000000000000) (w:aj) (hR:Rd L g t w) (hn:t.length<=n):ai af 220 #[.pointer (ah ⟨g,0,ag⟩)] w (PO L g VX (run (jG (fE n) (fF n)) t) w):=by
 have HX:=U hX;have HQ:=U hQ;have HN:=U hn;have HD:Hid (is mK t=true->t.tail.length<n):=U fun h=>by have h2:=hR.gd.ne;rw[List.length_tail];omega
 clear hX hQ hn;refine eQ hR ?_;clear hR;intro r HS HR HB hg;have Z:=pW w;go_enter func220,ntmps220;go_wp2_with fail;refine ac HS HB (dD mK _ (HR.out.low qe) bR) ?_ ?_
 · clear HS HB HR;rintro w1 i1 HS b1 HR HB;have HT:=U (HD.out i1);replace Z:=bV Z w1;clear b1 i1;go_wp2_with fail;have hz1:=Z.out.lt;refine po HS HB (HX.out.xf _ _ (HR.out.low qe) HT.out) ?_;clear HS HB HR;rintro x2 u2 v2 w2-HS b2 ⟨p2,m2,c2,rfl,k2⟩ HR HB;replace Z:=bV Z w2;clear b2;have jf:=jS k2 w.heap.size;clear k2;dsimp only [cu];go_wp2_with fail;refine gi HR HB (xg _ _ _ _ _) ?_;clear HR HB;rintro w3 b3 hb3 HR HB;have hzz:=Z.out.lt;have KN:Hid (bX (fun b=>w.heap.size<b) w3 (jq 5 x2) (ah ⟨w2.heap.size,0,ag⟩) 1):=U (Ex.bX.map hb3.size (fun b hb hlt=>⟨hb,hb3.block b hlt⟩) _ (H9 (c:=c2) 5 jf.out hzz));replace Z:=bV Z w3;clear b3 hb3;obtain⟨y0,y1,y2,y3,fz⟩:=dM Z.out;go_wp2_with fail;have bY:=HB.out;refine ae (v:=.agg (cu (jq 5 x2) (ah ⟨w2.heap.size,0,ag⟩) 1 1)) ?_ rfl (PO.ok (dz HS) qe ⟨(ah ⟨w2.heap.size,0,ag⟩),1,1,rfl,?_⟩ (HR.out.low qe))
   · exact ru
   · exact Js
 clear HS HB HR;rintro w1-HS b1 HR HB;replace Z:=bV Z w1;clear b1;go_wp2_with fail;have hz2:=Z.out.lt;refine pl HS HB (alp HX.out HQ.out _ (HR.out.low qe) HN.out) ?_;clear HB HR;rintro x2 u2 v2 w2-HL2 b2 ⟨p2,m2,c2,rfl,k2⟩ HR HB;replace Z:=bV Z w2;clear b2;have jf:=jS k2 w.heap.size;clear k2;dsimp only [cu];obtain⟨y0,y1,y2,y3,fz⟩:=dM Z.out;go_wp2_with fail;have bY:=HB.out;refine ae (v:=.agg (cu (x2) (p2) m2 c2)) ?_ rfl (PO.ok HL2.out qe ⟨(p2),m2,c2,rfl,?_⟩ (HR.out.low qe))
 · exact ru
 · have KK:=jf.out;exact jI KK qe
end
end Ps
namespace Ps
open Go.RowKit
open Lx (Tk)
open Ex (Ex)
open Md (Rw At bU)
theorem Em {w:aj} {b o:Nat} {x y:Value} (h0:w.cell? ⟨b,o,ag⟩=ah x) (h1:w.cell? ⟨b,o+1,ag⟩=ah y):At w b o #[x,y]:=by
 intro r v hv;have hr:r<2:=(Array.getElem?_eq_some_iff.1 hv).1
 match r,hr,hv with
 | 0,_,hv=>cases hv;rw[Nat.add_zero];exact h0
 | 1,_,hv=>cases hv;exact h1
theorem aaQ {g:Nat} {w:aj} {b:Nat} {s:ByteArray} {i:Int} (hg:g<b) (he:b=w.heap.size):Rw 2 zk (fun b=>¬b=g) (w.alloc (.cells #[.string s,.int .i64 i] 133)) [(s,i)] (ah ⟨b,0,ag⟩) 1:=by
 subst he;have hb:bU (w.alloc (.cells #[.string s,.int .i64 i] 133)) w.heap.size 133 _:=bU.new;refine⟨rfl,by omega,.inr ⟨w.heap.size,0,rfl,by omega,by simp,U fun k hk=>?_⟩⟩
 match k,hk with
 | 0,_=>exact⟨_,rfl,Em (hb.get rfl) (hb.get rfl),rfl⟩
theorem akV {g:Nat} {w:aj} {b:Nat} {s s2:ByteArray} {i i2:Int} (hg:g<b) (he:b=w.heap.size):Rw 2 zk (fun b=>¬b=g) (w.alloc (.cells #[.string s,.int .i64 i,.string s2,.int .i64 i2] 133)) [(s,i),(s2,i2)] (ah ⟨b,0,ag⟩) 2:=by
 subst he;have hb:bU (w.alloc (.cells #[.string s,.int .i64 i,.string s2,.int .i64 i2] 133)) w.heap.size 133 _:=bU.new;refine⟨rfl,by omega,.inr ⟨w.heap.size,0,rfl,by omega,by simp,U fun k hk=>?_⟩⟩
 match k,hk with
 | 0,_=>exact⟨_,rfl,Em (hb.get rfl) (hb.get rfl),rfl⟩
 | 1,_=>exact⟨_,rfl,Em (hb.get rfl) (hb.get rfl),rfl⟩
theorem akW {g:Nat} {w:aj} {b:Nat} {s s2 s3:ByteArray} {i i2 i3:Int} (hg:g<b) (he:b=w.heap.size):Rw 2 zk (fun b=>¬b=g) (w.alloc (.cells #[.string s,.int .i64 i,.string s2,.int .i64 i2,.string s3,.int .i64 i3] 133)) [(s,i),(s2,i2),(s3,i3)] (ah ⟨b,0,ag⟩) 3:=by
 subst he;have hb:bU (w.alloc (.cells #[.string s,.int .i64 i,.string s2,.int .i64 i2,.string s3,.int .i64 i3] 133)) w.heap.size 133 _:=bU.new;refine⟨rfl,by omega,.inr ⟨w.heap.size,0,rfl,by omega,by simp,U fun k hk=>?_⟩⟩
 match k,hk with
 | 0,_=>exact⟨_,rfl,Em (hb.get rfl) (hb.get rfl),rfl⟩
 | 1,_=>exact⟨_,rfl,Em (hb.get rfl) (hb.get rfl),rfl⟩
 | 2,_=>exact⟨_,rfl,Em (hb.get rfl) (hb.get rfl),rfl⟩
section
variable {L:Lk} {g:Nat} {t:List Tk} {m:P Ex}
theorem Nv {p:Prop} (h:p:=by
 clear HB HR;rintro x1 u1 v1 w1-HL1 b1 ⟨p1,m1,c1,rfl,k1⟩ HR HB;replace Z:=bV Z w1;clear b1;have d_:=jS k1 w.heap.size;clear k1;dsimp only [cu];obtain⟨y0,y1,y2,y3,fz⟩:=dM Z.out;go_wp2_with fail;have bY:=HB.out;refine ae (v:=.agg (cu (x1) (p1) m1 c1)) ?_ rfl (PO.ok HL1.out qe ⟨(p1),m1,c1,rfl,?_⟩ (HR.out.low qe))
 · exact Al
 · have KK:=d_.out;exact jI KK qe
 ):p:=h
theorem als (hm:Dn 1 m) (w:aj) (hR:Rd L g t w) (hC:∀W u,Rd L g u W->u.length<=t.length->ai af 220 #[.pointer (ah ⟨g,0,ag⟩)] W (PO L g VX (run m u) W)):ai af 213 #[.pointer (ah ⟨g,0,ag⟩)] w (PO L g VX (run (Fh m) t) w):=by
 have HC:=U hC;have HM:=U hm;clear hC hm;refine eQ hR ?_;clear hR;intro r HS HR HB hg;have Z:=pW w;go_enter func213,ntmps213;go_wp2_with fail;have hz1:=Z.out.lt;refine pl HS HB (Kl 220 m [(Ak,11),(F7,12),(F6,13)] _ 3 3 _ (HR.out.low qe) HC.out (fun _ _=>rfl) (akW bT cK) bR HM.out) ?_;exact Nv
theorem an4 (hm:Dn 1 m) (w:aj) (hR:Rd L g t w) (hC:∀W u,Rd L g u W->u.length<=t.length->ai af 220 #[.pointer (ah ⟨g,0,ag⟩)] W (PO L g VX (run m u) W)):ai af 194 #[.pointer (ah ⟨g,0,ag⟩)] w (PO L g VX (run (sum m) t) w):=by
 have HC:Hid (∀W u,Rd L g u W->u.length<=t.length->ai af 213 #[.pointer (ah ⟨g,0,ag⟩)] W (PO L g VX (run (Fh m) u) W)):=U fun W u hW hu=>als hm W hW fun W' u' hW' hu'=>hC W' u' hW' (Nat.le_trans hu' hu);have HM:=U (Xc hm);clear hC hm;refine eQ hR ?_;clear hR;intro r HS HR HB hg;have Z:=pW w;go_enter func194,ntmps194;go_wp2_with fail;have hz1:=Z.out.lt;refine pl HS HB (Kl 213 (Fh m) [(DZ,9),(mK,10)] _ 2 2 _ (HR.out.low qe) HC.out (fun _ _=>rfl) (akV bT cK) bR HM.out) ?_;exact Nv
theorem agP (hm:Dn 1 m) (w:aj) (hR:Rd L g t w) (hC:∀W u,Rd L g u W->u.length<=t.length->ai af 117 #[.pointer (ah ⟨g,0,ag⟩)] W (PO L g VX (run m u) W)):ai af 70 #[.pointer (ah ⟨g,0,ag⟩)] w (PO L g VX (run (AB m) t) w):=by
 have HC:=U hC;have HM:=U hm;clear hC hm;refine eQ hR ?_;clear hR;intro r HS HR HB hg;have Z:=pW w;go_enter func70,ntmps70;go_wp2_with fail;have hz1:=Z.out.lt;refine pl HS HB (Kl 117 m [(zI,18)] _ 1 1 _ (HR.out.low qe) HC.out (fun _ _=>rfl) (aaQ bT cK) bR HM.out) ?_;exact Nv
theorem ah2 (hm:Dn 1 m) (w:aj) (hR:Rd L g t w) (hC:∀W u,Rd L g u W->u.length<=t.length->ai af 117 #[.pointer (ah ⟨g,0,ag⟩)] W (PO L g VX (run m u) W)):ai af 39 #[.pointer (ah ⟨g,0,ag⟩)] w (PO L g VX (run (oO m) t) w):=by
 have HC:Hid (∀W u,Rd L g u W->u.length<=t.length->ai af 70 #[.pointer (ah ⟨g,0,ag⟩)] W (PO L g VX (run (AB m) u) W)):=U fun W u hW hu=>agP hm W hW fun W' u' hW' hu'=>hC W' u' hW' (Nat.le_trans hu' hu);have HM:=U (WU hm);clear hC hm;refine eQ hR ?_;clear hR;intro r HS HR HB hg;have Z:=pW w;go_enter func39,ntmps39;go_wp2_with fail;have hz1:=Z.out.lt;refine pl HS HB (Kl 70 (AB m) [(zJ,19)] _ 1 1 _ (HR.out.low qe) HC.out (fun _ _=>rfl) (aaQ bT cK) bR HM.out) ?_;exact Nv
end
end Ps
end Go.Proofs.YtkpekhpgdajabaaGreatDoor
