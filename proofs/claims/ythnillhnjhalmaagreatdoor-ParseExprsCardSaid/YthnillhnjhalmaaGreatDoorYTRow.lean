/-
  Parts of this proof: The contracts of the reader's rules for records . Lists that a rule makes. The contract of the reader's pairs. Expressions as values that a rule makes; node; t. The contract of the reader's chain.
-/
import Derived.Test.YthnillhnjhalmaaGreatDoorYRpB
open Go.Proofs.Tryz
open Go renaming bodyPost_ret->ae,World->aj,results_cell_row->ak,Value->av
open Option renaming none->af,some->ag
open Go.Lib renaming hid->U
open Go.Proofs.Tryz renaming prog->ah
open Go.World renaming cell?->ai
open Nat renaming le_refl->au
set_option linter.unusedVariables false
set_option maxRecDepth 100000
set_option maxHeartbeats 4000000
open Go.Lib (hid)
namespace Go.Proofs.YthnillhnjhalmaaGreatDoor
namespace Ps
open Ps.P (rt bd kd tk exp)
open Go.RowKit
open Lx (Tk)
open Md (bX iy ni mq mo i_ Val)
def sU (q:Int×Int):Array av:=#[.int .i64 q.1,.int .i64 q.2]
section
variable {L:Lk} {g:Nat} {t:List Tk}
theorem abR (w:aj) (hR:Rd L g t w):Calls ah 227 #[.pointer (ag ⟨g,0,af⟩)] w (PO L g (VC sU) (run pr t) w):=by
 refine eD hR ?_;clear hR;intro r HS HR HB hg;have Z:=U (bX.new (w:=w) (t:=248) (c:=#[.int .i64 0,.int .i64 0]));go_enter func227,ntmps227;go_wp2_with fail;refine po HS HB (lI _ (HR.out.low qe)) ?_;clear HS HB HR;rintro x1 u1 v1 w1-HS b1 ⟨rfl,n0,n1⟩ HR HB;replace Z:=bV Z w1;clear b1;go_wp2_with fail;refine po HS HB (gX _ _ (HR.out.low qe) bS) ?_;clear HS HB HR;rintro x2 u2 v2 w2-HS b2 rfl HR HB;replace Z:=bV Z w2;clear b2;go_wp2_with fail;refine po HS HB (lI _ (HR.out.low qe)) ?_;clear HS HB HR;rintro x3 u3 v3 w3-HS b3 ⟨rfl,m0,m1⟩ HR HB;replace Z:=bV Z w3;clear b3;obtain⟨p0,p1,fz⟩:=sV Z.out;go_wp2_with fail;have bZ:=HB.out;refine ae (v:=.agg #[.int .i64 x1,.int .i64 x3]) ?_ rfl (PO.ok (dD HS) qe rfl (HR.out.low qe));exact ak rfl _ _ w.heap.size 248 _ (0,0) _ rfl (Xq Z.out rfl) underlying248 rfl dA
theorem Zy (w:aj) (hR:Rd L g t w):Calls ah 214 #[.pointer (ag ⟨g,0,af⟩)] w (PO L g (VC iy) (run DI t) w):=by
 refine eD hR ?_;clear hR;intro r HS HR HB hg;have Z:=U (bX.new (w:=w) (t:=239) (c:=#[.string ⟨#[]⟩,.int .i64 0]));go_enter func214,ntmps214;go_wp2_with fail;refine po HS HB (jK _ (HR.out.low qe)) ?_;clear HS HB HR;rintro x1 u1 v1 w1-HS b1 rfl HR HB;replace Z:=bV Z w1;clear b1;go_wp2_with fail;refine po HS HB (adp _ (HR.out.low qe)) ?_;clear HS HB HR;rintro x2 u2 v2 w2-HS b2 rfl HR HB;replace Z:=bV Z w2;clear b2;obtain⟨p0,p1,fz⟩:=sV Z.out;go_wp2_with fail;have bZ:=HB.out;refine ae (v:=.agg #[.string x1,.int .i64 x2]) ?_ rfl (PO.ok (dD HS) qe rfl (HR.out.low qe));exact ak rfl _ _ w.heap.size 239 _ (0,0) _ rfl (Xq Z.out rfl) underlying239 rfl dA
theorem apH (w:aj) (hR:Rd L g t w):Calls ah 182 #[.pointer (ag ⟨g,0,af⟩)] w (PO L g (VC mq) (run Oi t) w):=by
 refine eD hR ?_;clear hR;intro r HS HR HB hg;have Z:=U (bX.new (w:=w) (t:=200) (c:=#[.string ⟨#[]⟩,.int .i64 0,.int .i64 0]));go_enter func182,ntmps182;go_wp2_with fail;refine po HS HB (jK _ (HR.out.low qe)) ?_;clear HS HB HR;rintro x1 u1 v1 w1-HS b1 rfl HR HB;replace Z:=bV Z w1;clear b1;go_wp2_with fail;refine po HS HB (lI _ (HR.out.low qe)) ?_;clear HS HB HR;rintro x2 u2 v2 w2-HS b2 ⟨rfl,n0,n1⟩ HR HB;replace Z:=bV Z w2;clear b2;go_wp2_with fail;refine po HS HB (amT _ (HR.out.low qe)) ?_;clear HS HB HR;rintro x3 u3 v3 w3-HS b3 rfl HR HB;replace Z:=bV Z w3;clear b3;have Y:=U (bX.new (w:=w3) (t:=200) (c:=#[.string x1,.int .i64 x2,.int .i64 x3]));have s3:=Z.out.lt;go_wp2_with fail;refine po HS HB (lF _ (HR.out.low qe)) ?_;clear HS HB HR;rintro x4 u4 v4 w4-HS b4 rfl HR HB;replace Z:=bV Z w4;replace Y:=bV Y w4;clear b4;obtain⟨p0,p1,p2,fz⟩:=g3U Z.out;obtain⟨l0,l1,l2,-⟩:=g3U Y.out;go_wp2_with fail;have bZ:=HB.out;refine ae (v:=.agg #[.string x1,.int .i64 x2,.int .i64 x3]) ?_ rfl (PO.ok (dD HS) qe rfl (HR.out.low qe));exact ak rfl _ _ w.heap.size 200 _ (0,0) _ rfl (LX Z.out rfl) underlying200 rfl dA
theorem agu (w:aj) (hR:Rd L g t w):Calls ah 183 #[.pointer (ag ⟨g,0,af⟩)] w (PO L g (VC mo) (run blt t) w):=by
 refine eD hR ?_;clear hR;intro r HS HR HB hg;have Z:=U (bX.new (w:=w) (t:=204) (c:=#[.string ⟨#[]⟩,.int .i64 0,.int .i64 0]));go_enter func183,ntmps183;go_wp2_with fail;refine po HS HB (jK _ (HR.out.low qe)) ?_;clear HS HB HR;rintro x1 u1 v1 w1-HS b1 rfl HR HB;replace Z:=bV Z w1;clear b1;go_wp2_with fail;refine po HS HB (lI _ (HR.out.low qe)) ?_;clear HS HB HR;rintro x2 u2 v2 w2-HS b2 ⟨rfl,n0,n1⟩ HR HB;replace Z:=bV Z w2;clear b2;go_wp2_with fail;refine po HS HB (lI _ (HR.out.low qe)) ?_;clear HS HB HR;rintro x3 u3 v3 w3-HS b3 ⟨rfl,m0,m1⟩ HR HB;replace Z:=bV Z w3;clear b3;have Y:=U (bX.new (w:=w3) (t:=204) (c:=#[.string x1,.int .i64 x2,.int .i64 x3]));have s3:=Z.out.lt;go_wp2_with fail;refine po HS HB (lF _ (HR.out.low qe)) ?_;clear HS HB HR;rintro x4 u4 v4 w4-HS b4 rfl HR HB;replace Z:=bV Z w4;replace Y:=bV Y w4;clear b4;obtain⟨p0,p1,p2,fz⟩:=g3U Z.out;obtain⟨l0,l1,l2,-⟩:=g3U Y.out;go_wp2_with fail;have bZ:=HB.out;refine ae (v:=.agg #[.string x1,.int .i64 x2,.int .i64 x3]) ?_ rfl (PO.ok (dD HS) qe rfl (HR.out.low qe));exact ak rfl _ _ w.heap.size 204 _ (0,0) _ rfl (LX Z.out rfl) underlying204 rfl dA
theorem ay4 {p:Prop} (h:p:=by
 replace Z:=bV Z w4;replace Y:=bV Y w4;clear b4;have l2:=Y.out.get (r:=2) rfl;have ff:=eu (i:=2) Y.out;go_wp2_with fail;replace Y:Hid (bX (w4.setCell ⟨w2.heap.size,2,af⟩ (.int .i64 x4)) w2.heap.size 103 #[.string x1,.int .i64 x2,.int .i64 x4]):=U (eX Y.out);clear l2 ff;refine po HS HB (lF _ (HR.out.low qe)) ?_;clear HS HB HR;rintro x5 u5 v5 w5-HS b5 rfl HR HB;replace Z:=bV Z w5;replace Y:=bV Y w5;clear b5;obtain⟨p0,p1,p2,fz⟩:=g3U Z.out;obtain⟨l0,l1,l2,-⟩:=g3U Y.out;go_wp2_with fail;have bZ:=HB.out;refine ae (v:=.agg #[.string x1,.int .i64 x2,.int .i64 x4]) ?_ rfl (PO.ok (dD HS) qe rfl (HR.out.low qe));exact ak rfl _ _ w.heap.size 103 _ (0,0) _ rfl (LX Z.out rfl) underlying103 rfl dA
 ):p:=h
theorem adu (w:aj) (hR:Rd L g t w):Calls ah 84 #[.pointer (ag ⟨g,0,af⟩)] w (PO L g (VC ni) (run val t) w):=by
 refine eD hR ?_;clear hR;intro r HS HR HB hg;have Z:=U (bX.new (w:=w) (t:=103) (c:=#[.string ⟨#[]⟩,.int .i64 0,.int .i64 0]));go_enter func84,ntmps84;go_wp2_with fail;refine po HS HB (jK _ (HR.out.low qe)) ?_;clear HS HB HR;rintro x1 u1 v1 w1-HS b1 rfl HR HB;replace Z:=bV Z w1;clear b1;go_wp2_with fail;refine po HS HB (adp _ (HR.out.low qe)) ?_;clear HS HB HR;rintro x2 u2 v2 w2-HS b2 rfl HR HB;replace Z:=bV Z w2;clear b2;have Y:=U (bX.new (w:=w2) (t:=103) (c:=#[.string x1,.int .i64 x2,.int .i64 0]));have s2:=Z.out.lt;go_wp2_with fail;refine po HS HB (gX _ _ (HR.out.low qe) bS) ?_;clear HS HB HR;rintro x3 u3 v3 w3-HS b3 rfl HR HB;replace Z:=bV Z w3;replace Y:=bV Y w3;clear b3;have l1:=Y.out.get (r:=1) rfl;by_cases hy:x2=2
 · have hb:(x2==2)=true:=by simp[hy]
   replace HS:=ac9 HS (show _=bd sD fun n=>bd fM fun _=>rt (⟨x1,x2,n⟩:Val) by rw[if_pos hy]);clear hy;go_wp2_with fail;clear l1;refine po HS HB (Ol _ (HR.out.low qe)) ?_;clear HS HB HR;rintro x4 u4 v4 w4-HS b4 ⟨rfl,-⟩ HR HB;exact ay4
 · have hb:(x2==2)=false:=by simp[hy]
   replace HS:=ac9 HS (show _=bd rQ fun n=>bd fM fun _=>rt (⟨x1,x2,n⟩:Val) by rw[if_neg hy]);clear hy;go_wp2_with fail;clear l1;refine po HS HB (M8 _ (HR.out.low qe)) ?_;clear HS HB HR;rintro x4 u4 v4 w4-HS b4 rfl HR HB;exact ay4
theorem avn {p:Prop} (h:p:=by
 exact ak rfl _ _ w.heap.size 263 _ (0,0) _ rfl (LX Z.out rfl) underlying263 rfl dA
 ):p:=h
theorem avF {p:Prop} (h:p:=by rw[← hW];have bZ:=HB.out;exact qe):p:=h
theorem UM (w:aj) (hR:Rd L g t w):Calls ah 217 #[.pointer (ag ⟨g,0,af⟩)] w (PO L g (VC i_) (run Bc t) w):=by
 have C1:=U (fun W (hW:Rd L g t W)=>zP W hW);have q:=zl (hd t).k (hd t).n (hd t).l (hd t).t;unfold tv at C1;refine eD hR ?_;clear hR;intro r HS HR HB hg;have Z:=U (bX.new (w:=w) (t:=263) (c:=#[.int .i64 0,.string ⟨#[]⟩,.string ⟨#[]⟩]));have Y:=U (bX.new (w:=w.alloc (.cells #[.int .i64 0,.string ⟨#[]⟩,.string ⟨#[]⟩] 263)) (t:=263) (c:=#[.int .i64 1,.string ⟨#[]⟩,.string ⟨#[]⟩]));have e1:(w.alloc (.cells #[.int .i64 0,.string ⟨#[]⟩,.string ⟨#[]⟩] 263)).heap.size=w.heap.size+1:=by simp
 rw[e1] at Y;clear e1;by_cases hk:(hd t).k=2
 · have hb:((hd t).k==2)=true:=by simp[hk]
   replace HS:=jw (apd HS hk);clear hk;go_enter func217,ntmps217;go_wp2_with fail;refine(C1.out _ (HR.out.low qe)).mono ?_;rintro e w1 ⟨rfl,hb1⟩;have b1:Bt g _ w1:=bT.of hb1;have R1:Rd L g t w1:=HR.out.low (by have q1:Lw g _ w1:=bT.of hb1;exact qe);replace Z:=bV Z w1;replace Y:=bV Y w1;replace HB:=dJ HB w1;replace HR:=U R1;clear b1 R1;clear hb1;go_wp2_with fail;clear q;refine po HS HB (lI _ (HR.out.low qe)) ?_;clear HS HB HR;rintro x2 u2 v2 w2-HS b2 ⟨rfl,n0,n1⟩ HR HB;replace Z:=bV Z w2;replace Y:=bV Y w2;clear b2;replace HS:=jw HS;have l0:=Y.out.get (r:=0) rfl;have ff:=eu (i:=0) Y.out;go_wp2_with fail;replace Y:Hid (bX (w2.setCell ⟨w.heap.size+1,0,af⟩ (.int .i64 x2)) (w.heap.size+1) 263 #[.int .i64 x2,.string ⟨#[]⟩,.string ⟨#[]⟩]):=U (eX Y.out);clear l0 ff;refine po HS HB (gX _ _ (HR.out.low qe) bS) ?_;clear HS HB HR;rintro x3 u3 v3 w3-HS b3 rfl HR HB;replace Z:=bV Z w3;replace Y:=bV Y w3;clear b3;replace HS:=mI HS;go_wp2_with fail;refine po HS HB (jK _ (HR.out.low qe)) ?_;clear HS HB HR;rintro x4 u4 v4 w4-HS b4 rfl HR HB;replace Z:=bV Z w4;replace Y:=bV Y w4;clear b4;have l1:=Y.out.get (r:=1) rfl;have ff:=eu (i:=1) Y.out;go_wp2_with fail;replace Y:Hid (bX (w4.setCell ⟨w.heap.size+1,1,af⟩ (.string x4)) (w.heap.size+1) 263 #[.int .i64 x2,.string x4,.string ⟨#[]⟩]):=U (eX Y.out);clear l1 ff;refine po HS HB (jK _ (HR.out.low qe)) ?_;clear HS HB HR;rintro x5 u5 v5 w5-HS b5 rfl HR HB;replace Z:=bV Z w5;replace Y:=bV Y w5;clear b5;have l2:=Y.out.get (r:=2) rfl;have ff:=eu (i:=2) Y.out;obtain⟨W,hW⟩:∃W,w5.setCell ⟨w.heap.size+1,2,af⟩ (.string x5)=W:=⟨_,rfl⟩
   have y5:bX W (w.heap.size+1) 263 #[.int .i64 x2,.string x4,.string x5]:=by rw[← hW];exact eX Y.out
   have z5:bX W w.heap.size 263 #[.int .i64 0,.string ⟨#[]⟩,.string ⟨#[]⟩]:=by rw[← hW];exact cO Z.out qe
   have B5:Hid (Bt g w W):=U avF;have R5:Hid (Rd L g u5 W):=U (by rw[← hW];exact(HR.out.low qe));replace Y:=U y5;replace Z:=U z5;clear y5 z5 HB HR;obtain⟨p0,p1,p2,fz⟩:=g3U Z.out;obtain⟨m0,m1,m2,-⟩:=g3U Y.out;go_wp2_with fail;have bZ:=B5.out;refine ae (v:=.agg #[.int .i64 x2,.string x4,.string x5]) ?_ rfl (PO.ok (dD HS) qe rfl (R5.out.low qe));exact avn
 · have hb:((hd t).k==2)=false:=by simp[hk]
   replace HS:=mI (ape HS hk);clear hk;go_enter func217,ntmps217;go_wp2_with fail;refine(C1.out _ (HR.out.low qe)).mono ?_;rintro e w1 ⟨rfl,hb1⟩;have b1:Bt g _ w1:=bT.of hb1;have R1:Rd L g t w1:=HR.out.low (by have q1:Lw g _ w1:=bT.of hb1;exact qe);replace Z:=bV Z w1;replace Y:=bV Y w1;replace HB:=dJ HB w1;replace HR:=U R1;clear b1 R1;clear hb1;go_wp2_with fail;clear q;refine po HS HB (jK _ (HR.out.low qe)) ?_;clear HS HB HR;rintro x4 u4 v4 w4-HS b4 rfl HR HB;replace Z:=bV Z w4;replace Y:=bV Y w4;clear b4;have l1:=Y.out.get (r:=1) rfl;have ff:=eu (i:=1) Y.out;go_wp2_with fail;replace Y:Hid (bX (w4.setCell ⟨w.heap.size+1,1,af⟩ (.string x4)) (w.heap.size+1) 263 #[.int .i64 1,.string x4,.string ⟨#[]⟩]):=U (eX Y.out);clear l1 ff;refine po HS HB (jK _ (HR.out.low qe)) ?_;clear HS HB HR;rintro x5 u5 v5 w5-HS b5 rfl HR HB;replace Z:=bV Z w5;replace Y:=bV Y w5;clear b5;have l2:=Y.out.get (r:=2) rfl;have ff:=eu (i:=2) Y.out;obtain⟨W,hW⟩:∃W,w5.setCell ⟨w.heap.size+1,2,af⟩ (.string x5)=W:=⟨_,rfl⟩
   have y5:bX W (w.heap.size+1) 263 #[.int .i64 1,.string x4,.string x5]:=by rw[← hW];exact eX Y.out
   have z5:bX W w.heap.size 263 #[.int .i64 0,.string ⟨#[]⟩,.string ⟨#[]⟩]:=by rw[← hW];exact cO Z.out qe
   have B5:Hid (Bt g w W):=U avF;have R5:Hid (Rd L g u5 W):=U (by rw[← hW];exact(HR.out.low qe));replace Y:=U y5;replace Z:=U z5;clear y5 z5 HB HR;obtain⟨p0,p1,p2,fz⟩:=g3U Z.out;obtain⟨m0,m1,m2,-⟩:=g3U Y.out;go_wp2_with fail;have bZ:=B5.out;refine ae (v:=.agg #[.int .i64 1,.string x4,.string x5]) ?_ rfl (PO.ok (dD HS) qe rfl (R5.out.low qe));exact avn
theorem ac0 (w:aj) (hR:Rd L g t w):Calls ah 218 #[.pointer (ag ⟨g,0,af⟩)] w (PO L g (VC i_) (run J_ t) w):=by
 have HN:Hid (∀u x v,Gd u->run Bc u=.ok x v->-1000000000000<=x.co/\x.co<=1000000000000):=U fun u x v hg h=>by
  unfold Bc at h
  cases h1:run (kd 2 (bd num fun n=>bd (exp kE) fun _=>rt n) (rt 1)) u with
  | no q=>rw[eU h1] at h;cases h
  | ok c q=>
   rw[dN h1] at h;have hc:-1000000000000<=c/\c<=1000000000000:=by
    by_cases hk:(hd u).k=2
    · rw[BO hk] at h1;unfold num at h1
      cases h2:run (bd (tk 2) fun x=>rt x.2) u with
      | no q2=>rw[eU h2] at h1;cases h1
      | ok n q2=>
       rw[dN h2] at h1;have hn:n=(hd u).n:=by rw[dN (tO hk)] at h2;cases h2;rfl
       cases h3:run (exp kE) q2 with
       | no q3=>rw[eU h3] at h1;cases h1
       | ok _ q3=>rw[dN h3] at h1;cases h1;have:=hg.wf.n;omega
    · rw[DX hk] at h1;cases h1;omega
   cases h2:run f_ q with
   | no q2=>rw[eU h2] at h;cases h
   | ok s q2=>
    rw[dN h2] at h
    cases h3:run f_ q2 with
    | no q3=>rw[eU h3] at h;cases h
    | ok s2 q3=>rw[dN h3] at h;cases h;exact hc
 refine eD hR ?_;clear hR;intro r HS HR HB hg;have Z:=U (bX.new (w:=w) (t:=263) (c:=#[.int .i64 0,.string ⟨#[]⟩,.string ⟨#[]⟩]));go_enter func218,ntmps218;go_wp2_with fail;refine ac HS HB (dH _ _ (HR.out.low qe) bS) ?_ ?_
 · clear HS HB HR;rintro w1-HS b1 HR HB;replace Z:=bV Z w1;clear b1;go_wp2_with fail;refine pl HS HB (UM _ (HR.out.low qe)) ?_;clear HB HR;rintro x2 u2 v2 w2-HL2 b2 rfl HR HB;replace Z:=bV Z w2;clear b2;obtain⟨p0,p1,p2,fz⟩:=g3U Z.out;dsimp only [i_];go_wp2_with fail;have bZ:=HB.out;refine ae (v:=.agg (i_ x2)) ?_ rfl (PO.ok HL2.out qe rfl (HR.out.low qe));exact avn
 · clear HS HB HR;rintro w1-HS b1 HR HB;replace Z:=bV Z w1;clear b1;go_wp2_with fail;refine po HS HB (gX _ _ (HR.out.low qe) bS) ?_;clear HS HB HR;rintro x2 u2 v2 w2-HS b2 rfl HR HB;replace Z:=bV Z w2;clear b2;go_wp2_with fail;refine po HS HB (UM _ (HR.out.low qe)) ?_;clear HS HB;rintro x3 u3 v3 w3 r3 HS b3 rfl R3 HB;have hn:=HN.out _ _ _ HR.out.gd r3;replace Z:=bV Z w3;replace HR:=R3;clear b3 r3;have s3:=Z.out.lt;have Y:=U (bX.new (w:=w3) (t:=263) (c:=#[.int .i64 x3.co,.string x3.wh,.string x3.nm]));have hw:wrap64 (-x3.co) = -x3.co:=by unfold wrap64;omega
   obtain⟨W,hW⟩:∃W,(w3.alloc (.cells #[.int .i64 x3.co,.string x3.wh,.string x3.nm] 263)).setCell ⟨w3.heap.size,0,af⟩ (.int .i64 (-x3.co))=W:=⟨_,rfl⟩
   have y5:bX W w3.heap.size 263 #[.int .i64 (-x3.co),.string x3.wh,.string x3.nm]:=by rw[← hW];exact eX Y.out
   have z5:bX W w.heap.size 263 #[.int .i64 0,.string ⟨#[]⟩,.string ⟨#[]⟩]:=by rw[← hW];exact cO Z.out qe
   have B5:Hid (Bt g w W):=U avF;have R5:Hid (Rd L g u3 W):=U (by rw[← hW];exact(HR.out.low qe));have l0:=Y.out.get (r:=0) rfl;have ff:=eu (i:=0) Y.out;have q0:ai W ⟨_,0,af⟩=ag (.int .i64 (-x3.co)):=y5.get rfl;have q1:ai W ⟨_,1,af⟩=ag (.string x3.wh):=y5.get rfl;have q2:ai W ⟨_,2,af⟩=ag (.string x3.nm):=y5.get rfl;replace Z:=U z5;clear y5 z5 HB HR Y hn;obtain⟨p0,p1,p2,fz⟩:=g3U Z.out;dsimp only [i_];go_wp2_with fail;have bZ:=B5.out;refine ae (v:=.agg #[.int .i64 (-x3.co),.string x3.wh,.string x3.nm]) ?_ rfl (PO.ok (dD HS) qe rfl (R5.out.low qe));exact avn
end
end Ps
namespace Ps
open Go.RowKit
open Ex (Ff)
open Md (Rec fC Rw At nu MJ IV Sb R_ Kind iC mH)
structure cu {α:Type} (T:TypeId) (k:Nat) (R:Rec α) (G:Nat->Prop) (w:aj) (v:av) (l:List α):Prop where
 ex:∃C:List (Array av),C.length=l.length/\(∀i,(h:i<l.length)->(h2:i<C.length)->R (fun b=>G b/\¬v.ownBlock=ag b) w l[i] C[i])/\w.ownsRow 0 T k v l.length (nu C)
 blk:∀b,v.ownBlock=ag b->G b
theorem JP {w w2:aj} {base k n:Nat} {T:TypeId} {v:av} {xs:List av} (h:w.ownsRow base T k v n xs) (hb:∀b,v.ownBlock=ag b->w2.heap[b]?=w.heap[b]?):w2.ownsRow base T k v n xs:=by
 obtain⟨h1,h2|⟨g,cap,cur,rfl,h3,h4,h5⟩⟩:=h
 · exact⟨h1,.inl h2⟩
 · exact⟨h1,.inr ⟨g,cap,cur,rfl,h3,(hb g rfl).trans h4,h5⟩⟩
section
variable {α:Type} {LT T:TypeId} {k:Nat} {R:Rec α} {G H:Nat->Prop} {w w2:aj} {v:av} {l:List α} {x:α}
theorem cu.own {b:Nat} (h:cu T k R G w v l) (hv:v.ownBlock=ag b):b<w.heap.size:=by
 obtain⟨C,h1,h2,h3⟩:=h.ex;exact(h3.lt b hv).2
theorem cu.map (hm:fC R) (h:cu T k R G w v l) (hs:w.heap.size<=w2.heap.size) (hk:∀b,G b->b<w.heap.size->H b/\w2.heap[b]?=w.heap[b]?):cu T k R H w2 v l:=by
 have ho:=fun b (hv:v.ownBlock=ag b)=>h.own hv;obtain⟨C,h1,h2,h3⟩:=h.ex;exact⟨⟨C,h1,fun i hi hi2=>hm hs (fun b hg hb=>⟨⟨(hk b hg.1 hb).1,hg.2⟩,(hk b hg.1 hb).2⟩) (h2 i hi hi2),JP h3 fun b hv=>(hk b (h.blk b hv) (ho b hv)).2⟩,fun b hv=>(hk b (h.blk b hv) (ho b hv)).1⟩
theorem cu.up {lo lo2:Nat} (hm:fC R) (h:cu T k R (fun b=>lo<=b) w v l) (hb:Up lo w w2) (hl:lo2<=lo):cu T k R (fun b=>lo2<=b) w2 v l:=h.map hm hb.size fun b hg hlt=>⟨by omega,hb.block b hlt hg⟩
theorem cu.nil:cu T k R G w (.slice af 0 0) ([]:List α):=⟨⟨[],rfl,fun i h=>absurd h (Nat.not_lt_zero _),World.ownsRow_nil _ _ _ _⟩,fun b h=>by cases h⟩
theorem cu.one {c:Array av} (hR:R (fun b=>G b/\b<w.heap.size) w x c) (hm:fC R) (hs:iC k R) (hg:G w.heap.size):cu T k R G (w.alloc (.cells c T)) (.slice (ag ⟨w.heap.size,0,af⟩) 1 1) [x]:=by
 have hz:=hs hR;refine⟨⟨[c],rfl,fun i h h2=>?_,?_⟩,fun b hb=>?_⟩
 · have h0:i=0:=by simp at h;omega
   subst h0;exact hm cz (fun b hb hlt=>⟨⟨hb.1,by
    intro e;have:w.heap.size=b:=by simpa [Value.ownBlock] using e
    omega⟩,by
    show(w.heap.push _)[b]?=_
    rw[Array.getElem?_push,if_neg bU]⟩) hR
 · refine⟨by rw[IV (k:=k) (by intro d hd;rw[List.mem_singleton] at hd;rw[hd];exact hz.1)];rfl,.inr ⟨w.heap.size,1,c,rfl,Nat.zero_le _,World.alloc_heap_new w _,au _,by unfold maxLen;omega,by rw[hz.1];omega,?_⟩⟩;have e:c.toList.length=k:=by rw[Array.length_toList];exact hz.1
   show c.toList.take (1*k)=nu [c]
   rw[List.take_of_length_le bU];simp[nu]
 · have:w.heap.size=b:=by simpa [Value.ownBlock] using hb
   rwa [← this]
theorem cu.app (I:Kind LT T k) (hm:fC R) (hs:iC k R) (ho:cu T k R G w v l) {B:Nat} {c:Array av} (hc:At w B 0 c) (hR:R (fun b=>G b/\¬v.ownBlock=ag b) w x c) (hn:l.length<=1000000) :
 ∃(v':av) (w':aj),(Builtin.append_ #[LT,LT] LT #[v,.slice (ag ⟨B,0,af⟩) 1 1]).run ah w=.ok v' w'/\cu T k R (fun b=>G b∨w.heap.size<=b) w' v' (l++[x])/\w.grownBy w' v.ownBlock:=by
 have hown:=fun b (hv:v.ownBlock=ag b)=>ho.own hv;have hblk:=ho.blk;obtain⟨C,a1,a2,a3⟩:=ho.ex;have hz0:∀d∈C,d.size=k:=fun d hd=>by
  obtain⟨i,hi,rfl⟩:=List.getElem_of_mem hd;exact(hs (a2 i bU hi)).1
 have hz:=hs hR;obtain⟨i0,z,hi0,hi1,hi2,hi3,hi4⟩:=I.info;have hmx:(l.length+1)*i0.bytes<=140737488355328:=by
  have h1:(l.length+1)*i0.bytes<=1000001*1000:=Nat.mul_le_mul bU hi4;omega
 have hf:nu [c]=c.toList:=by simp[nu]
 obtain⟨v',w',e1,e2,e3,-,e5⟩:=run_append_own_at (P:=ah) w 0 LT LT T i0 z k i0.bytes I.slice hi0 hi1 hi2 rfl hi3 I.pos v l.length _ a3 ⟨B,0,af⟩ 1 1 (nu [c]) (by rw[hf,Array.length_toList,hz.1];omega) (fun j u hu=>by
  rw[hf,Array.getElem?_toList] at hu;have:=hc j u hu;rw[Nat.zero_add] at this;rw[Ff,Nat.zero_add];exact this) (Sb fun d hd=>by rw[List.mem_singleton] at hd;rw[hd];exact hz.2) Py hmx (Nat.zero_le _)
 have hne:∀b,b<w.heap.size->¬v.ownBlock=ag b->¬v'.ownBlock=ag b:=fun b hb h1 h2=>by
  rcases e5 with e5|e5
  · rw[e5] at h2;exact h1 h2
  · rw[e5] at h2;injection h2 with h2;omega
 have keep:∀{y:α} {d:Array av},R (fun b=>G b/\¬v.ownBlock=ag b) w y d->R (fun b=>(G b∨w.heap.size<=b)/\¬v'.ownBlock=ag b) w' y d:=fun {y d} hr=>hm e3.size (fun b hb hlt=>⟨⟨.inl hb.1,hne b hlt hb.2⟩,e3.block b hlt (fun he=>hb.2 he.symm)⟩) hr;refine⟨v',w',e1,⟨⟨C++[c],by simp[a1],fun i hi hi2=>?_,?_⟩,fun b hb=>?_⟩,e3⟩
 · rw[List.getElem_append,List.getElem_append];by_cases h0:i<l.length
   · rw[dif_pos h0,dif_pos bU];exact keep (a2 i h0 bU)
   · rw[dif_neg h0,dif_neg bU];have e:i=l.length:=by simp at hi;omega
     subst e;simp only[a1,Nat.sub_self,List.getElem_cons_zero];exact keep hR
 · rw[R_,List.length_append];exact e2
 · rcases e5 with e5|e5
   · rw[e5] at hb;exact .inl (hblk b hb)
   · rw[e5] at hb;injection hb with hb;exact .inr bU
theorem cu.rw (hm:fC R) (hs:iC k R) (h:cu T k R G w v l) (hn:l.length<=1000000):∃p c,v=.slice p l.length c/\Rw k R G w l p l.length:=by
 have hblk:=h.blk;obtain⟨C,h1,h2,h3⟩:=h.ex;rcases h3.2 with⟨rfl,h0⟩|⟨g,cap,cur,rfl,hb,hg,-⟩
 · exact⟨af,0,by rw[h0],rfl,by omega,.inl h0⟩
 · have hgl:g<w.heap.size:=(Array.getElem?_eq_some_iff.1 hg).1;have hL:∀c∈C,c.size=k:=fun c hc=>by
    obtain⟨i,hi,rfl⟩:=List.getElem_of_mem hc;exact(hs (h2 i bU hi)).1
   refine⟨ag ⟨g,0,af⟩,cap,rfl,rfl,by omega,.inr ⟨g,0,rfl,hblk g rfl,hgl,U fun i hi=>?_⟩⟩;have hi2:i<C.length:=by omega
   have hR:=h2 i hi hi2;refine⟨C[i],(hs hR).1,fun r u hu=>?_,hm (au _) (fun b hb _=>⟨hb.1,rfl⟩) hR⟩;exact zzh
end
def VL {α:Type} (k:Nat) (R:Rec α) (lo:Nat) (w:aj) (l:List α) (v:av):Prop:=∃p m c,v=.slice p m c/\Rw k R (fun b=>lo<=b) w l p m
def VR {α:Type} (R:Rec α) (lo:Nat) (w:aj) (x:α) (v:av):Prop:=∃c,v=.agg c/\R (fun b=>lo<=b) w x c
theorem bT.grown {S:Nat->Prop} {a w w2:aj} {row:Option Nat} (h:bT S a w) (hg:w.grownBy w2 row) (hr:∀b,row=ag b->a.heap.size<=b∨¬S b):bT S a w2:=
 ⟨hg.os.trans h.os, hg.tape.trans h.tape, hg.output.trans h.output, Nat.le_trans h.size hg.size, fun k hk hs => (hg.block k (Nat.lt_of_lt_of_le hk h.size) (fun e => by
   rcases hr k e.symm with g|g
   · omega
   · exact g hs)).trans (h.block k hk hs)⟩
def kR:Rec (Int×Int):=fun _ _ x c=>c=sU x
theorem kR.map:fC kR:=by intro G H w w2 _ _ x c h;exact h
theorem Uj:iC 2 kR:=by intro G w x c h;subst h;exact⟨rfl,by simp[sU,Value.oneCell']⟩
theorem kPr:Kind 246 248 2:=mH underlying246 (z:=.agg #[.int .i64 0,.int .i64 0]) (b:=16) dA bS bS bS
end Ps
namespace Ps
open Go.RowKit
open Lx (Tk)
open Md (bX)
section
variable {L:Lk} {g:Nat} {t:List Tk}
structure afW (L:Lk) (g:Nat) (r:R (List (Int×Int))) (w:aj) (k:Nat) (v:av) (wr:aj):Prop where
 ex:∃l u,run (Gr k l) u=r/\u.length<k/\l.length+u.length<=30000/\cu 248 2 kR (fun b=>w.heap.size<=b) wr v l/\Rd L g u wr
 bt:Bt g w wr
theorem abS (w:aj) (hR:Rd L g t w):Calls ah 197 #[.pointer (ag ⟨g,0,af⟩)] w (PO L g (VL 2 kR) (run AX t) w):=by
 have hd0:Hid (∀x u,run pr t=.ok x u->u.length+3<=t.length):=U (fun x u h=>(Mt.out hR.gd h).2);have ht:=hR.small;refine eD hR ?_;clear hR;intro r HS HR HB hg;go_enter func197,ntmps197;go_wp2_with fail;refine po HS HB (abR _ (HR.out.low qe)) ?_;clear HS HB HR;rintro x1 u1 v1 w1 r1 HS b1 rfl HR HB;have hl1:=hd0.out _ _ r1;clear b1 r1 hd0;have o1:cu 248 2 kR (fun b=>w.heap.size<=b) (w1.alloc (.cells (sU x1) 248)) (.slice (ag ⟨w1.heap.size,0,af⟩) 1 1) [x1]:=cu.one rfl kR.map Uj HB.out.size;have HO:=U o1;have HT:=U hl1;unfold sU at o1;unfold sU;clear o1 hl1;go_wp2_with fail;go_loopg [3] FU (afW L g r w)
 case atStart=>
  have h1:=HT.out;exact⟨⟨[x1],u1,HS.out,by unfold FU;omega,by simp;omega,HO.out,(HR.out.low qe)⟩,by have bZ:=HB.out;exact qe⟩
 case round=>
  obtain⟨⟨l,u,hs,hk,hl,ho,hR⟩,hb⟩:=hrel;clear HS HB HR HO HT;obtain⟨k,rfl⟩:∃k,gk=k+1:=⟨gk-1,by omega⟩
  rw[Gr] at hs;have C1:=U (fun W (hW:Rd L g u W)=>zP W hW);have q:=zl (hd u).k (hd u).n (hd u).l (hd u).t;unfold tv at C1;have HL:=U hl;have HK:=U hk;have HO:=U ho;have HR:=U hR;have HB:=U hb;have HS:=U hs;by_cases h2:(hd u).k=2
  · have hb2:((hd u).k==2)=true:=by simp[h2]
    replace HS:=Uy HS h2;have hd0:Hid (∀x v,run pr u=.ok x v->v.length+3<=u.length):=U (fun x v h=>(Mt.out hR.gd h).2);clear h2 hl hk ho hR hb hs;go_wp2_with fail;refine(C1.out _ HR.out).mono ?_;rintro e w2 ⟨rfl,hb1⟩;replace HR:Hid (Rd L g u w2):=U (HR.out.low (bT.of hb1));have o2:cu 248 2 kR (fun b=>w.heap.size<=b) w2 u3 l:=HO.out.up kR.map (bT.of hb1) (au _);replace HO:=U o2;replace HB:Hid (Bt g w w2):=U (HB.out.below hb1);clear hb1 o2;go_wp2_with fail;clear q;refine po HS HB (abR _ (HR.out.low qe)) ?_;clear HS HB HR;rintro x3 u3' v3 w3 r3 HS b3 rfl HR HB;have hl1:=hd0.out _ _ r3;have o3:cu 248 2 kR (fun b=>w.heap.size<=b) w3 u3 l:=HO.out.up kR.map (b3.mono fun k _ hk=>by have:w.heap.size<=k:=hk;omega) (au _);have HT:=U hl1;replace HO:=U o3;clear b3 r3 hd0 hl1 o3;have o4:cu 248 2 kR (fun b=>w.heap.size<=b) (w3.alloc (.cells (sU x3) 248)) u3 l:=HO.out.up kR.map qe (au _);have c4:bX (w3.alloc (.cells (sU x3) 248)) w3.heap.size 248 (sU x3):=bX.new;obtain⟨v5,w5,hrun,o5,hg5⟩:=o4.app kPr kR.map Uj c4.cell (x:=x3) rfl ou;have s3:=HB.out.size;have B5:Hid (Bt g w w5):=U (bT.grown qh hg5 fun b hb=>.inl (o4.blk b hb));have R5:Hid (Rd L g u3' w5):=U (HR.out.low (bT.grown qe hg5 fun b hb=>.inr CL));have O5:Hid (cu 248 2 kR (fun b=>w.heap.size<=b) w5 v5 (l++[x3])):=U (o5.map kR.map (au _) fun b hb _=>⟨by
     rcases hb with hb|hb
     · exact hb
     · have e:(w3.alloc (.cells (sU x3) 248)).heap.size=w3.heap.size+1:=by simp
       omega,rfl⟩)
    unfold sU at hrun;clear o4 c4 o5 hg5 HB HR HO;unfold sU;go_wp2_with (at_builtin;refine Lib.wpList_append_run _ rfl _ _ _ _ rfl _ _ rfl rfl _ _ hrun ?_)
    go_roundg k
    case measure=>omega
    case rel=>
     have h1:=HT.out;have h2:=HK.out;have h3:=HL.out;exact⟨⟨_,u3',HS.out,by omega,by simp;omega,O5.out,R5.out⟩,B5.out⟩
  · have hb2:((hd u).k==2)=false:=by simp[h2]
    replace HS:=Uz HS h2;clear h2 hl hk ho hR hb hs;go_wp2_with fail;refine(C1.out _ HR.out).mono ?_;rintro e w2 ⟨rfl,hb1⟩;replace HR:Hid (Rd L g u w2):=U (HR.out.low (bT.of hb1));have o2:cu 248 2 kR (fun b=>w.heap.size<=b) w2 u3 l:=HO.out.up kR.map (bT.of hb1) (au _);obtain⟨p,c,rfl,hrw⟩:=o2.rw kR.map Uj ou;have HW:=U hrw;replace HB:Hid (Bt g w w2):=U (HB.out.below hb1);clear hb1 o2 hrw HO;go_wp2_with fail;go_ret;exact PO.ok (dD HS) HB.out ⟨p,_,c,rfl,HW.out⟩ HR.out
end
end Ps
namespace Ps
open Ps.P (len)
open Go.RowKit
open Lx (Tk bs)
open Ex (Ex Gives bW qN h_)
open Md (Rec fC Rw At bX Kind iC mH)
def b_ (x:Ex) (p:Option Addr) (m c:Nat):Array av:=#[.int .i64 x.o,.string x.s,.int .i64 x.n,.slice p m c]
def fQ:Rec Ex:=fun G w x c=>∃p m cc,c=b_ x p m cc/\bW G w x p m
theorem fQ.map:fC fQ:=by
 intro G H w w2 hs hk x c ⟨p,m,cc,h1,h2⟩;exact⟨p,m,cc,h1,bW.map hs hk x h2⟩
theorem Eu:iC 4 fQ:=by
 intro G w x c ⟨p,m,cc,h1,h2⟩;subst h1;exact⟨rfl,by simp[b_,Value.oneCell']⟩
theorem kEx:Kind 24 26 4:=mH underlying24 (z:=.agg #[.int .i64 0,.string ⟨#[]⟩,.int .i64 0,.slice af 0 0]) (b:=56) dA bS bS bS
theorem Ii {w:aj} {b o:Nat} {x:Ex} {p:Option Addr} {m c:Nat}:At w b o (b_ x p m c)↔h_ w b o x p m c:=by
 constructor
 · intro h;exact⟨by have:=h 0 _ rfl;rwa [Nat.add_zero] at this,h 1 _ rfl,h 2 _ rfl,h 3 _ rfl⟩
 · rintro⟨h0,h1,h2,h3⟩ r v hv;have hr:r<4:=(Array.getElem?_eq_some_iff.1 hv).1
   match r,hr,hv with
   | 0,_,hv=>cases hv;rw[Nat.add_zero];exact h0
   | 1,_,hv=>cases hv;exact h1
   | 2,_,hv=>cases hv;exact h2
   | 3,_,hv=>cases hv;exact h3
theorem Nh {G:Nat->Prop} {w:aj} {o:Int} {s:ByteArray} {n:Int} {l:List Ex} {p:Option Addr} {m:Nat}:bW G w (.mk o s n l) p m↔Rw 4 fQ G w l p m:=by
 rw[qN];constructor
 · rintro⟨h1,h2,h3|⟨b,o',rfl,hg,hb,hc⟩⟩
   · exact⟨h1,h2,.inl h3⟩
   · refine⟨h1,h2,.inr ⟨b,o',rfl,hg,hb,U fun i hi=>?_⟩⟩;obtain⟨q,j,c,h5,h6⟩:=hc.out i hi;exact⟨b_ l[i] q j c,rfl,Ii.2 h5,q,j,c,rfl,h6⟩
 · rintro⟨h1,h2,h3|⟨b,o',rfl,hg,hb,hc⟩⟩
   · exact⟨h1,h2,.inl h3⟩
   · refine⟨h1,h2,.inr ⟨b,o',rfl,hg,hb,U fun i hi=>?_⟩⟩;obtain⟨c,h4,h5,q,j,cc,rfl,h6⟩:=hc.out i hi;exact⟨q,j,cc,Ii.1 h5,h6⟩
def VX (lo:Nat) (w:aj) (x:Ex) (v:av):Prop:=∃p m c,v=.agg (b_ x p m c)/\bW (fun b=>lo<=b) w x p m
theorem xX (o:Int) (p:Option Addr) (m c:Nat) (w:aj):Calls ah 118 #[.int .i64 o,.slice p m c] w (Gives (.agg #[.int .i64 o,.string ⟨#[]⟩,.int .i64 0,.slice p m c]) w):=by
 go_enter func118,ntmps118;go_wp2_with fail;refine ae (v:=.agg #[.int .i64 o,.string ⟨#[]⟩,.int .i64 0,.slice p m c]) ?_ rfl ⟨rfl,bl⟩;exact ak rfl _ _ w.heap.size 26 _ (0,0) _ rfl bX.new underlying26 rfl dA
def Ai:Rec (ByteArray×Int):=fun _ _ x c=>c=#[.string x.1,.int .i64 x.2]
theorem Ai.map:fC Ai:=by intro G H w w2 _ _ x c h;exact h
def fV:List (ByteArray×Int)->List Tk->Option Int
 | [],_=>af
 | o::r,t=>if is o.1 t=true then ag o.2 else fV r t
theorem AQ {α:Type} {A:Int->P α} {B:P α} {t:List Tk} {o:Int}:∀{os:List (ByteArray×Int)},fV os t=ag o->run (rZ A B os) t=run (A o) t.tail
 | [],h=>by cases h
 | q::r,h=>by
  unfold fV at h;unfold rZ
  cases hi:is q.1 t with
  | true=>rw[hi,if_pos rfl] at h;cases h;rw[um hi]
  | false=>rw[hi,if_neg bS] at h;rw[lQ hi];exact AQ h
theorem Gn {α:Type} {A:Int->P α} {B:P α} {t:List Tk}:∀{os:List (ByteArray×Int)},fV os t=af->run (rZ A B os) t=run B t
 | [],h=>rfl
 | q::r,h=>by
  unfold fV at h;unfold rZ
  cases hi:is q.1 t with
  | true=>rw[hi,if_pos rfl] at h;cases h
  | false=>rw[hi,if_neg bS] at h;rw[lQ hi];exact Gn h
theorem YN {α:Type} {l:List α} {k:Nat} {x:α} (h:l[k]?=ag x):l.drop k=x::l.drop (k+1):=by
 obtain⟨hk,e⟩:=List.getElem?_eq_some_iff.1 h;rw[List.drop_eq_getElem_cons hk,e]
theorem ajM {t:List Tk} {os:List (ByteArray×Int)} {k:Nat} {q:ByteArray×Int} (hk:os[k]?=ag q) (h:is q.1 t=false):fV (os.drop k) t=fV (os.drop (k+1)) t:=by
 rw[YN hk,fV,h,if_neg bS]
theorem ajL {t:List Tk} {os:List (ByteArray×Int)} {k:Nat} {q:ByteArray×Int} (hk:os[k]?=ag q) (h:is q.1 t=true):fV (os.drop k) t=ag q.2:=by
 rw[YN hk,fV,h,if_pos rfl]
def OO (L:Lk) (g:Nat) (os:List (ByteArray×Int)) (t:List Tk) (w:aj) (e:Ending) (w':aj):Prop:=
 Bt g w w'/\((∃o,fV os t=ag o/\e=.returned (.tuple #[.int .i64 o,.bool true])/\Rd L g t.tail w')∨(fV os t=af/\e=.returned (.tuple #[.int .i64 0,.bool false])/\Rd L g t w'))
structure afV (L:Lk) (g:Nat) (os:List (ByteArray×Int)) (t:List Tk) (w:aj) (n:Nat) (v:av) (wr:aj):Prop where
 ex:∃k,k+n=os.length+1/\0<n/\v=.int .i64 ((k:Nat):Int)/\fV os t=fV (os.drop k) t
 rd:Rd L g t wr
 bt:Bt g w wr
section
variable {L:Lk} {g:Nat} {t:List Tk}
theorem af6 (os:List (ByteArray×Int)) (p:Option Addr) (m c:Nat) (w:aj) (hR:Rd L g t w) (ho:Rw 2 Ai (fun b=>¬b=g) w os p m) (hs:∀q∈os,¬bs q.1=[]):Calls ah 117 #[.pointer (ag ⟨g,0,af⟩),.slice p m c] w (OO L g os t w):=by
 obtain⟨hl,hm⟩:=ho.len;have HL:=U hl;have HM:=U hm;have HO:=U ho;have HR:=U hR;have Db:=U hs;clear hl hm ho hR hs;go_enter func117,ntmps117;go_wp2_with fail;go_loopg [10] (os.length+1) (afV L g os t w)
 case atStart=>exact⟨⟨0,by omega,by omega,rfl,rfl⟩,HR.out,by exact qe⟩
 case round=>
  obtain⟨⟨k,hk,h0,rfl,hf⟩,hR,hb⟩:=hrel;have h30:=hR.few;by_cases hkl:k<os.length
  · obtain⟨b,o,hpe,hbg,hlt,hcc⟩:=HO.out.rows (by rw[← HL.out];omega);obtain⟨cc,hc1,hc2,hc3⟩:=hcc.out k hkl;obtain⟨⟨s,op⟩,hso⟩:∃q,os[k]=q:=⟨_,rfl⟩
    rw[hso] at hc3;have hc3:cc=#[.string s,.int .i64 op]:=hc3;subst hc3;subst hpe;have hne:=Db.out os[k] (List.getElem_mem hkl);rw[hso] at hne;have hcw:At wr b (o+k*2) #[.string s,.int .i64 op]:=hc2.keep (hb.block b hlt hbg);have q0:wr.cell? ⟨b,o+k*2,af⟩=ag (.string s):=by have:=hcw.get (r:=0) rfl;rwa [Nat.add_zero] at this
    have q1:wr.cell? ⟨b,o+k*2+1,af⟩=ag (.int .i64 op):=hcw.get (r:=1) rfl;have k0:(0:Int)<=(k:Int):=by omega
    have k1:(k:Int)<(m:Int):=by have:=HL.out;omega
    have k2:decide ((k:Int)<(m:Int))=true:=decide_eq_true k1;have hw:IntKind.i64.wrap ((k:Int)+1)=((k+1:Nat):Int):=by rw[IntKind.wrap_i64];have:=HM.out;omega
    have HQ:Hid (os[k]?=ag (s,op)):=U (by rw[List.getElem?_eq_getElem hkl,hso]);have hkm:k<m:=by have:=HL.out;omega
    have HN:=U hne;have HR2:=U hR;have HB:=U hb;have HF:=U hf;have HK:=U hk;clear hR hb hf hk hcw hc2 hcc hne hso hkl hc1 HO hc3;go_wp2_with fail;refine(dH s _ (HR2.out.low qe) HN.out).mono ?_;rintro e w1 ⟨b1,⟨i1,rfl,R1⟩|⟨i1,rfl,R1⟩⟩
    · have hr:fV os t=ag op:=HF.out.trans (ajL HQ.out i1);have HH:=U hr;have B1:Hid (Bt g w w1):=U (by have q:Bt g w wr:=HB.out;exact qe);have R2:=U R1;have z1:(wr.alloc (.cells #[.string s,.int .i64 op] 126)).cell? ⟨wr.heap.size,1,af⟩=ag (.int .i64 op):=by rw[World.cell?_alloc_mark];rfl
      have z2:bX w1 wr.heap.size 126 #[.string s,.int .i64 op]:=agv (g:=g) bX.new b1 (by have:=HR2.out.blk;omega);have z3:=z2.get (r:=1) rfl;clear hr b1 i1 R1 z1 z2 q0 q1 HF;go_wp2_with fail;refine ae (v:=.tuple #[.int .i64 op,.bool true]) (by simp[results,results117,go_sem]) rfl ⟨B1.out,.inl ⟨op,HH.out,rfl,R2.out⟩⟩
    · have hr:fV os t=fV (os.drop (k+1)) t:=HF.out.trans (ajM HQ.out i1);have HH:=U hr;have B1:=U b1;have R2:=U R1;clear hr b1 i1 R1 q0 q1 HF;have B2:Hid (Bt g w w1):=U (by have q:Bt g w wr:=HB.out;have q2:=B1.out;exact qe);go_wp2_with fail;go_roundg (gk-1)
      case measure=>omega
      case rel=>
       have h1:=HK.out;exact⟨⟨k+1,by omega,by have:=HL.out;omega,rfl,HH.out⟩,R2.out,B2.out⟩
  · have e:os.drop k=[]:=List.drop_of_length_le bU;have hn:fV os t=af:=by rw[hf,e];rfl
    have k2:decide ((k:Int)<(m:Int))=false:=decide_eq_false ou;have k3:¬((k:Int)<(m:Int)):=by have:=HL.out;omega
    have HH:=U hn;have B2:=U hb;have R2:=U hR;clear hf hb hR hn e hk hkl;go_wp2_with fail;exact ae (v:=.tuple #[.int .i64 0,.bool false]) (by simp[results,results117,go_sem]) rfl ⟨B2.out,.inr ⟨HH.out,rfl,R2.out⟩⟩
end
end Ps
namespace Ps
open Ps.P (bd)
open Go.RowKit
open Lx (Tk bs)
open Ex (Ex bW)
open Md (Rw bX)
theorem wL {G:Nat->Prop} {w:aj} {x y:Ex} {p q:Option Addr} {m n c d:Nat} (o:Int) (hx:bW G w x p m) (hy:bW G w y q n) (hg:G w.heap.size):bW G (w.alloc (.cells #[.int .i64 x.o,.string x.s,.int .i64 x.n,.slice p m c,.int .i64 y.o,.string y.s,.int .i64 y.n,.slice q n d] 26)) (dF o x y) (ag ⟨w.heap.size,0,af⟩) 2:=by
 have hk:∀(z:Ex) (r:Option Addr) (j:Nat),bW G w z r j->bW G (w.alloc (.cells #[.int .i64 x.o,.string x.s,.int .i64 x.n,.slice p m c,.int .i64 y.o,.string y.s,.int .i64 y.n,.slice q n d] 26)) z r j:=fun z r j h=>Ex.bW.map cz (fun b hb hlt=>⟨hb,by show(w.heap.push _)[b]?=_;rw[Array.getElem?_push,if_neg bU]⟩) z h;have hb:bX (w.alloc (.cells #[.int .i64 x.o,.string x.s,.int .i64 x.n,.slice p m c,.int .i64 y.o,.string y.s,.int .i64 y.n,.slice q n d] 26)) w.heap.size 26 _:=bX.new;refine Nh.2 ⟨rfl,by omega,.inr ⟨w.heap.size,0,rfl,hg,by simp,U fun i hi=>?_⟩⟩
 match i,hi with
 | 0,_=>exact⟨b_ x p m c,rfl,Ii.2 ⟨hb.get rfl,hb.get rfl,hb.get rfl,hb.get rfl⟩,p,m,c,rfl,hk x p m hx⟩
 | 1,_=>exact⟨b_ y q n d,rfl,Ii.2 ⟨hb.get rfl,hb.get rfl,hb.get rfl,hb.get rfl⟩,q,n,d,rfl,hk y q n hy⟩
theorem DY {G:Nat->Prop} {w:aj} {x:Ex} {p:Option Addr} {m c:Nat} (o:Int) (hx:bW G w x p m) (hg:G w.heap.size):bW G (w.alloc (.cells #[.int .i64 x.o,.string x.s,.int .i64 x.n,.slice p m c] 26)) (iR o x) (ag ⟨w.heap.size,0,af⟩) 1:=by
 have hk:bW G (w.alloc (.cells #[.int .i64 x.o,.string x.s,.int .i64 x.n,.slice p m c] 26)) x p m:=Ex.bW.map cz (fun b hb hlt=>⟨hb,by show(w.heap.push _)[b]?=_;rw[Array.getElem?_push,if_neg bU]⟩) x hx;have hb:bX (w.alloc (.cells #[.int .i64 x.o,.string x.s,.int .i64 x.n,.slice p m c] 26)) w.heap.size 26 _:=bX.new;refine Nh.2 ⟨rfl,by omega,.inr ⟨w.heap.size,0,rfl,hg,by simp,U fun i hi=>?_⟩⟩
 match i,hi with
 | 0,_=>exact⟨b_ x p m c,rfl,Ii.2 ⟨hb.get rfl,hb.get rfl,hb.get rfl,hb.get rfl⟩,p,m,c,rfl,hk⟩
structure afA (L:Lk) (g:Nat) (r:R Ex) (m:P Ex) (os:List (ByteArray×Int)) (N:Nat) (w:aj) (B:Nat) (k:Nat) (wr:aj):Prop where
 ex:∃e u p j c,run (gU m os k e) u=r/\u.length<k/\u.length<=N/\bX wr B 26 (b_ e p j c)/\bW (fun b=>w.heap.size<b/\¬b=B) wr e p j/\Rd L g u wr
 bt:Bt g w wr
 res:∃z,z.size=4/\bX wr w.heap.size 26 z
theorem four {z:Array av} (h:z.size=4):∃a b c d,z=#[a,b,c,d]:=by
 match z,h with
 | ⟨[a,b,c,d]⟩,_=>exact⟨a,b,c,d,rfl⟩
theorem ahs {m:P Ex} {os:List (ByteArray×Int)} {k:Nat} {e:Ex} {u:List Tk} {r:R Ex} (H:Hid (run (gU m os (k+1) e) u=r)) (h:fV os u=af):r=.ok e u:=by
 have:=H.out;rw[gU,Gn h] at this;exact this.symm
theorem aht {m:P Ex} {os:List (ByteArray×Int)} {k:Nat} {e:Ex} {u:List Tk} {r:R Ex} {o:Int} (H:Hid (run (gU m os (k+1) e) u=r)) (h:fV os u=ag o):Hid (run (bd m fun y=>gU m os k (dF o e y)) u.tail=r):=by
 have:=H.out;rw[gU,AQ h] at this;exact U this
section
variable {L:Lk} {g:Nat} {t:List Tk}
theorem avo {p:Prop} (h:p:=by have hgB:¬w1.heap.size=g:=(by omega);exact qe):p:=h
theorem Mf (f:FuncId) (m:P Ex) (os:List (ByteArray×Int)) (p:Option Addr) (n c:Nat) (w:aj) (hR:Rd L g t w)
 (hC:∀W u,Rd L g u W->u.length<=t.length->Calls ah f #[.pointer (ag ⟨g,0,af⟩)] W (PO L g VX (run m u) W))
 (hf:∀(a:Array av) (W:aj),(callFunc f a).run ah W=.ok (.enter f a) W) (ho:Rw 2 Ai (fun b=>¬b=g) w os p n) (hs:∀q∈os,¬bs q.1=[]) (hm:Dn 1 m):Calls ah 65 #[.pointer (ag ⟨g,0,af⟩),.func (.func f) #[] #[],.slice p n c] w (PO L g VX (run (gI m os) t) w):=by
 have HC:=U hC;have HO:Hid (∀W,Bt g w W->Rw 2 Ai (fun b=>¬b=g) W os p n):=U fun W hW=>ho.map Ai.map hW.size fun b hb hlt=>⟨hb,hW.block b hlt hb⟩
 have Db:=U hs;have HM:=U hm;have hd0:Hid (∀x u,run m t=.ok x u->u.length+1<=t.length):=U (fun x u h=>(hm.out hR.gd h).2);have hfu:=U hR.fu;clear hC ho hs hm;refine eD hR ?_;clear hR;intro r HS HR HB hg;have Z:=jR w;go_enter func65,ntmps65;go_wp2_with fail;refine po HS HB (HC.out _ _ (HR.out.low qe) (au _)) ?_;clear HS HB HR;rintro x1 u1 v1 w1 r1 HS b1 ⟨p1,m1,c1,rfl,k1⟩ HR HB;have HT:=U (hd0.out _ _ r1);replace Z:=bV Z w1;clear b1 r1 hd0;have e0:(w.alloc (.cells #[.int .i64 0,.string ⟨#[]⟩,.int .i64 0,.slice af 0 0] 26)).heap.size=w.heap.size+1:=by simp
 rw[e0] at k1;have K1:=U k1;have hz:=Z.out.lt;clear k1 e0;unfold b_;go_wp2_with fail;go_loopg [] FU (afA L g r m os t.length w w1.heap.size)
 case atStart=>
  have h1:=HT.out;have h2:=hfu.out;refine⟨⟨x1,u1,p1,m1,c1,HS.out,by omega,by omega,bX.new,?_,(HR.out.low qe)⟩,by have bZ:=HB.out;exact qe,_,rfl,cO Z.out qe⟩;exact zzw
 case round=>
  obtain⟨⟨e,u,p2,m2,c2,hr,hk,hl,hbx,dP,hR⟩,hb,zz,jh,hzb⟩:=hrel;clear HS HB HR HT K1 Z hfu;obtain⟨k,rfl⟩:∃k,gk=k+1:=⟨gk-1,by omega⟩
  have P5:=U (HO.out wr hb);have HS:=U hr;have HR:=U hR;have HB:=U hb;have HK:=U hk;have HL:=U hl;have Y:=U hbx;have dO:=U dP;have Z:=U hzb;have ru:=U jh;clear hr hR hb hk hl hbx dP hzb jh;go_wp2_with fail;refine(af6 os p n c _ HR.out P5.out Db.out).mono ?_;rintro e' w2 ⟨b2,⟨o,Jb,rfl,R2⟩|⟨Jb,rfl,R2⟩⟩
  · replace HS:=aht HS Jb;have hne:¬(hd u).k=0:=by
     intro e;have:=HR.out.gd.last e;have h2:=R2.gd.ne;rw[List.length_tail] at h2;omega
    have HT:=U (HR.out.gd.tail hne).2;have hd2:Hid (∀y v,run m u.tail=.ok y v->v.length+1<=u.tail.length):=U (fun y v h=>(HM.out.out R2.gd h).2);replace Y:=U (cO (w2:=w2) Y.out avo);replace Z:=bV Z w2;have b2':=b2;replace HB:=dJ HB w2;replace HR:=U R2;replace dO:Hid (bW (fun b=>w.heap.size<b/\¬b=w1.heap.size) w2 e p2 m2):=U (Ex.bW.map b2'.size (fun b hb hlt=>⟨hb,b2'.block b hlt bU⟩) e dO.out);clear b2 b2' R2 Jb hne;obtain⟨l0,l1,l2,l3,-⟩:=df Y.out;have y0:∃z0 z1 z2 z3,zz=#[z0,z1,z2,z3]:=four ru.out;have fz:∀i,World.frozen? _ ⟨_,i,af⟩=false:=fun i=>eu (i:=i) Y.out;clear y0;go_wp2_with fail;go_region_with (first|(go_at_call 118;refine(xX _ _ _ _ _).mono ?_;rintro e' w4 ⟨rfl,hb4⟩;have q4:Bt g _ w4:=bT.of hb4;have s4:bX w4 w1.heap.size 26 (b_ e p2 m2 c2):=cO s3 avo;have y0:ai w4 ⟨w1.heap.size,0,af⟩=ag (.int .i64 e.o):=s4.get rfl;have y1:ai w4 ⟨w1.heap.size,1,af⟩=ag (.string e.s):=s4.get rfl;have y2:ai w4 ⟨w1.heap.size,2,af⟩=ag (.int .i64 e.n):=s4.get rfl;have y3:ai w4 ⟨w1.heap.size,3,af⟩=ag (.slice p2 m2 c2):=s4.get rfl;have Aw:∀i,World.frozen? w4 ⟨w1.heap.size,i,af⟩=false:=fun i=>eu (i:=i) s4)|(refine(HC.out _ _ (HR.out.low qe) (by have h1:=HT.out;have h2:=HL.out;omega)).mono ?_;rintro e' w3 h3;rcases h3.cases with⟨x3,u3,v3,r3,rfl,b3,V3,R3⟩|⟨u3,r3,rfl,b3⟩;rotate_left 1;(have bZ:=HB.out;exact⟨rfl,PO.no (fI HS (by assumption)) qe⟩);obtain⟨p3,m3,c3,rfl,k3⟩:=V3;dsimp only [b_];have s3:=cO (w2:=w3) Y.out avo;have m0:ai w3 ⟨w1.heap.size,0,af⟩=ag (.int .i64 e.o):=s3.get rfl;have rV:ai w3 ⟨w1.heap.size,1,af⟩=ag (.string e.s):=s3.get rfl;have rW:ai w3 ⟨w1.heap.size,2,af⟩=ag (.int .i64 e.n):=s3.get rfl;have rX:ai w3 ⟨w1.heap.size,3,af⟩=ag (.slice p2 m2 c2):=s3.get rfl))
    all_goals
     have z2:=Y.out.lt;have HD:=U (hd2.out _ _ r3);have HS2:=fB HS r3;have gB:¬w1.heap.size=g:=bU;have Z3:bX w3 w.heap.size 26 zz:=cO (w2:=w3) Z.out qe;have Z4:bX w4 w.heap.size 26 zz:=cO Z3 qe;have B4:Bt g w w4:=by have bZ:=HB.out;exact qe
     have R4:Rd L g u3 w4:=R3.low (oJ hb4);have KE:bW (fun b=>w.heap.size<b/\¬b=w1.heap.size) w3 e p2 m2:=Ex.bW.map (w:=w2) b3.size (fun b hb hlt=>⟨hb,b3.block b hlt bU⟩) e dO.out;have KX:bW (fun b=>w.heap.size<b/\¬b=w1.heap.size) w3 x3 p3 m3:=k3.mono fun b hb hlt=>by
      have hb2:w2.heap.size<=b:=hb;have hb3:=hz;exact⟨by omega,by omega⟩
     have qR:=b3.size;have aqv:w2.heap.size<=w3.heap.size:=qR;have KN:=wL (c:=c2) (d:=c3) o KE KX ⟨by omega,by omega⟩;have K4:bW (fun b=>w.heap.size<b/\¬b=w1.heap.size) w4 (dF o e x3) (ag ⟨w3.heap.size,0,af⟩) 2:=Ex.bW.map hb4.size (fun b hb hlt=>⟨hb,hb4.block b hlt⟩) _ KN;have D4:=U s4;have HQ:=U (And.intro Z4 (And.intro B4 (And.intro R4 K4)));clear Z3 Z4 B4 R4 KE KX KN K4 qR r3 k3 h3 R3 b3 hb4 q4 s4 s3 m0 rV rW rX l0 l1 l2 l3 y0 y1 y2 y3 Aw fz;go_wp2_with fail;go_roundg k
     case measure=>exact Nat.lt_succ_self k
     case rel=>
      obtain⟨Z4,B4,R4,K4⟩:=HQ.out;have h1:=HD.out;have h2:=HT.out;have h3:=HK.out;have h4:=HL.out;have qS:bT (fun b=>w.heap.size<b/\¬b=w1.heap.size) w4 ((((w4.setCell ⟨w1.heap.size,0,af⟩ (.int .i64 o)).setCell ⟨w1.heap.size,1,af⟩ (.string ⟨#[]⟩)).setCell ⟨w1.heap.size,2,af⟩ (.int .i64 0)).setCell ⟨w1.heap.size,3,af⟩ (.slice (ag ⟨w3.heap.size,0,af⟩) 2 2)):=by
       refine bT.set (bT.set (bT.set (bT.set (bT.refl _ _) ?_) ?_) ?_) ?_ <;> exact .inr fun h=>h.2 rfl
      exact⟨⟨dF o e x3,u3,_,2,2,HS2.out,by omega,by omega,mi D4.out rfl,Ex.bW.map qS.size (fun b hb hlt=>⟨hb,qS.block b hlt hb⟩) _ K4,R4.low qe⟩,by exact qe,zz,ru.out,cO Z4 qe⟩
  · have hr:=ahs HS Jb;replace Y:=U (cO (w2:=w2) Y.out avo);replace Z:=bV Z w2;have b2':=b2;replace HB:=dJ HB w2;replace HR:=U R2;replace dO:Hid (bW (fun b=>w.heap.size<b/\¬b=w1.heap.size) w2 e p2 m2):=U (Ex.bW.map b2'.size (fun b hb hlt=>⟨hb,b2'.block b hlt bU⟩) e dO.out);replace HS:=U hr;clear b2 b2' R2 Jb hr;obtain⟨z0,z1,z2,z3,rfl⟩:=four ru.out;obtain⟨l0,l1,l2,l3,-⟩:=df Y.out;obtain⟨y0,y1,y2,y3,fz⟩:=df Z.out;go_wp2_with fail;have bZ:=HB.out;refine ae (v:=.agg (b_ e p2 m2 c2)) ?_ rfl (PO.ok HS.out qe ⟨p2,m2,c2,rfl,?_⟩ (HR.out.low qe))
    · exact sJ
    · refine Ex.bW.map (G:=fun b=>w.heap.size<b/\¬b=w1.heap.size) (w:=w2) cz (fun b hb hlt=>⟨by show w.heap.size<=b;omega,?_⟩) e dO.out;have q:bT (fun k=>¬k=w.heap.size) w2 ((((w2.setCell ⟨w.heap.size,0,af⟩ (.int .i64 e.o)).setCell ⟨w.heap.size,1,af⟩ (.string e.s)).setCell ⟨w.heap.size,2,af⟩ (.int .i64 e.n)).setCell ⟨w.heap.size,3,af⟩ (.slice p2 m2 c2)):=by exact qe
      exact q.block b hlt bU
end
end Ps
end Go.Proofs.YthnillhnjhalmaaGreatDoor
