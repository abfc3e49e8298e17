/-
  Parts of this proof: The contracts of the reader's rules for records . Lists that a rule makes. The contract of the reader's pairs. Expressions as values that a rule makes; node; t. The contract of the reader's chain.
-/
import Derived.Test.YtkpekhpgdajabaaGreatDoorYTBase
open Go.Proofs.Tryz
open Go renaming bodyPost_ret->ae,World->aj,results_cell_row->ak,Value->av
open Option renaming none->af,some->ag
open Go.Lib renaming hid->U
open Go.Proofs.Tryz renaming prog->ah
open Go.World renaming cell?->ai
open Nat renaming le_refl->au
set_option linter.unusedVariables false
set_option maxRecDepth 100000
set_option maxHeartbeats 4000000
open Go.Lib (hid)
namespace Go.Proofs.YtkpekhpgdajabaaGreatDoor
namespace Ps
open Ps.P (rt bd kd tk exp)
open Go.RowKit
open Lx (Tk)
open Md (bU gW mQ lQ lN iK Val)
def rG (q:Int×Int):Array av:=#[.int .i64 q.1,.int .i64 q.2]
section
variable {L:Lk} {g:Nat} {t:List Tk}
theorem aaT (w:aj) (hR:Rd L g t w):Calls ah 210 #[.pointer (ag ⟨g,0,af⟩)] w (PO L g (VC rG) (run pr t) w):=by
 refine eQ hR ?_;clear hR;intro r HS HR HB hg;have Z:=U (bU.new (w:=w) (t:=256) (c:=#[.int .i64 0,.int .i64 0]));go_enter func210,ntmps210;go_wp2_with fail;refine po HS HB (kV _ (HR.out.low qe)) ?_;clear HS HB HR;rintro x1 u1 v1 w1-HS b1 ⟨rfl,n0,n1⟩ HR HB;replace Z:=bV Z w1;clear b1;go_wp2_with fail;refine po HS HB (gI _ _ (HR.out.low qe) bR) ?_;clear HS HB HR;rintro x2 u2 v2 w2-HS b2 rfl HR HB;replace Z:=bV Z w2;clear b2;go_wp2_with fail;refine po HS HB (kV _ (HR.out.low qe)) ?_;clear HS HB HR;rintro x3 u3 v3 w3-HS b3 ⟨rfl,m0,m1⟩ HR HB;replace Z:=bV Z w3;clear b3;obtain⟨p0,p1,fz⟩:=YG Z.out;go_wp2_with fail;have bY:=HB.out;refine ae (v:=.agg #[.int .i64 x1,.int .i64 x3]) ?_ rfl (PO.ok (dz HS) qe rfl (HR.out.low qe));exact ak rfl _ _ w.heap.size 256 _ (0,0) _ rfl (Pd Z.out rfl) underlying256 rfl dx
theorem Yb (w:aj) (hR:Rd L g t w):Calls ah 197 #[.pointer (ag ⟨g,0,af⟩)] w (PO L g (VC gW) (run Cq t) w):=by
 refine eQ hR ?_;clear hR;intro r HS HR HB hg;have Z:=U (bU.new (w:=w) (t:=247) (c:=#[.string ⟨#[]⟩,.int .i64 0]));go_enter func197,ntmps197;go_wp2_with fail;refine po HS HB (jo _ (HR.out.low qe)) ?_;clear HS HB HR;rintro x1 u1 v1 w1-HS b1 rfl HR HB;replace Z:=bV Z w1;clear b1;go_wp2_with fail;refine po HS HB (ab_ _ (HR.out.low qe)) ?_;clear HS HB HR;rintro x2 u2 v2 w2-HS b2 rfl HR HB;replace Z:=bV Z w2;clear b2;obtain⟨p0,p1,fz⟩:=YG Z.out;go_wp2_with fail;have bY:=HB.out;refine ae (v:=.agg #[.string x1,.int .i64 x2]) ?_ rfl (PO.ok (dz HS) qe rfl (HR.out.low qe));exact ak rfl _ _ w.heap.size 247 _ (0,0) _ rfl (Pd Z.out rfl) underlying247 rfl dx
theorem an2 (w:aj) (hR:Rd L g t w):Calls ah 169 #[.pointer (ag ⟨g,0,af⟩)] w (PO L g (VC lQ) (run MR t) w):=by
 refine eQ hR ?_;clear hR;intro r HS HR HB hg;have Z:=U (bU.new (w:=w) (t:=205) (c:=#[.string ⟨#[]⟩,.int .i64 0,.int .i64 0]));go_enter func169,ntmps169;go_wp2_with fail;refine po HS HB (jo _ (HR.out.low qe)) ?_;clear HS HB HR;rintro x1 u1 v1 w1-HS b1 rfl HR HB;replace Z:=bV Z w1;clear b1;go_wp2_with fail;refine po HS HB (kV _ (HR.out.low qe)) ?_;clear HS HB HR;rintro x2 u2 v2 w2-HS b2 ⟨rfl,n0,n1⟩ HR HB;replace Z:=bV Z w2;clear b2;go_wp2_with fail;refine po HS HB (alm _ (HR.out.low qe)) ?_;clear HS HB HR;rintro x3 u3 v3 w3-HS b3 rfl HR HB;replace Z:=bV Z w3;clear b3;have Y:=U (bU.new (w:=w3) (t:=205) (c:=#[.string x1,.int .i64 x2,.int .i64 x3]));have s3:=Z.out.lt;go_wp2_with fail;refine po HS HB (kS _ (HR.out.low qe)) ?_;clear HS HB HR;rintro x4 u4 v4 w4-HS b4 rfl HR HB;replace Z:=bV Z w4;replace Y:=bV Y w4;clear b4;obtain⟨p0,p1,p2,fz⟩:=vo Z.out;obtain⟨l0,l1,l2,-⟩:=vo Y.out;go_wp2_with fail;have bY:=HB.out;refine ae (v:=.agg #[.string x1,.int .i64 x2,.int .i64 x3]) ?_ rfl (PO.ok (dz HS) qe rfl (HR.out.low qe));exact ak rfl _ _ w.heap.size 205 _ (0,0) _ rfl (J8 Z.out rfl) underlying205 rfl dx
theorem aeT (w:aj) (hR:Rd L g t w):Calls ah 170 #[.pointer (ag ⟨g,0,af⟩)] w (PO L g (VC lN) (run blt t) w):=by
 refine eQ hR ?_;clear hR;intro r HS HR HB hg;have Z:=U (bU.new (w:=w) (t:=209) (c:=#[.string ⟨#[]⟩,.int .i64 0,.int .i64 0]));go_enter func170,ntmps170;go_wp2_with fail;refine po HS HB (jo _ (HR.out.low qe)) ?_;clear HS HB HR;rintro x1 u1 v1 w1-HS b1 rfl HR HB;replace Z:=bV Z w1;clear b1;go_wp2_with fail;refine po HS HB (kV _ (HR.out.low qe)) ?_;clear HS HB HR;rintro x2 u2 v2 w2-HS b2 ⟨rfl,n0,n1⟩ HR HB;replace Z:=bV Z w2;clear b2;go_wp2_with fail;refine po HS HB (kV _ (HR.out.low qe)) ?_;clear HS HB HR;rintro x3 u3 v3 w3-HS b3 ⟨rfl,m0,m1⟩ HR HB;replace Z:=bV Z w3;clear b3;have Y:=U (bU.new (w:=w3) (t:=209) (c:=#[.string x1,.int .i64 x2,.int .i64 x3]));have s3:=Z.out.lt;go_wp2_with fail;refine po HS HB (kS _ (HR.out.low qe)) ?_;clear HS HB HR;rintro x4 u4 v4 w4-HS b4 rfl HR HB;replace Z:=bV Z w4;replace Y:=bV Y w4;clear b4;obtain⟨p0,p1,p2,fz⟩:=vo Z.out;obtain⟨l0,l1,l2,-⟩:=vo Y.out;go_wp2_with fail;have bY:=HB.out;refine ae (v:=.agg #[.string x1,.int .i64 x2,.int .i64 x3]) ?_ rfl (PO.ok (dz HS) qe rfl (HR.out.low qe));exact ak rfl _ _ w.heap.size 209 _ (0,0) _ rfl (J8 Z.out rfl) underlying209 rfl dx
theorem acG {p:Prop} (h:p:=by
 replace Z:=bV Z w4;replace Y:=bV Y w4;clear b4;have l2:=Y.out.get (r:=2) rfl;have ff:=fA (i:=2) Y.out;go_wp2_with fail;replace Y:Hid (bU (w4.setCell ⟨w2.heap.size,2,af⟩ (.int .i64 x4)) w2.heap.size 105 #[.string x1,.int .i64 x2,.int .i64 x4]):=U (eX Y.out);clear l2 ff;refine po HS HB (kS _ (HR.out.low qe)) ?_;clear HS HB HR;rintro x5 u5 v5 w5-HS b5 rfl HR HB;replace Z:=bV Z w5;replace Y:=bV Y w5;clear b5;obtain⟨p0,p1,p2,fz⟩:=vo Z.out;obtain⟨l0,l1,l2,-⟩:=vo Y.out;go_wp2_with fail;have bY:=HB.out;refine ae (v:=.agg #[.string x1,.int .i64 x2,.int .i64 x4]) ?_ rfl (PO.ok (dz HS) qe rfl (HR.out.low qe));exact ak rfl _ _ w.heap.size 105 _ (0,0) _ rfl (J8 Z.out rfl) underlying105 rfl dx
 ):p:=h
theorem ace (w:aj) (hR:Rd L g t w):Calls ah 82 #[.pointer (ag ⟨g,0,af⟩)] w (PO L g (VC mQ) (run val t) w):=by
 refine eQ hR ?_;clear hR;intro r HS HR HB hg;have Z:=U (bU.new (w:=w) (t:=105) (c:=#[.string ⟨#[]⟩,.int .i64 0,.int .i64 0]));go_enter func82,ntmps82;go_wp2_with fail;refine po HS HB (jo _ (HR.out.low qe)) ?_;clear HS HB HR;rintro x1 u1 v1 w1-HS b1 rfl HR HB;replace Z:=bV Z w1;clear b1;go_wp2_with fail;refine po HS HB (ab_ _ (HR.out.low qe)) ?_;clear HS HB HR;rintro x2 u2 v2 w2-HS b2 rfl HR HB;replace Z:=bV Z w2;clear b2;have Y:=U (bU.new (w:=w2) (t:=105) (c:=#[.string x1,.int .i64 x2,.int .i64 0]));have s2:=Z.out.lt;go_wp2_with fail;refine po HS HB (gI _ _ (HR.out.low qe) bR) ?_;clear HS HB HR;rintro x3 u3 v3 w3-HS b3 rfl HR HB;replace Z:=bV Z w3;replace Y:=bV Y w3;clear b3;have l1:=Y.out.get (r:=1) rfl;by_cases hy:x2=2
 · have hb:(x2==2)=true:=by simp[hy]
   replace HS:=abW HS (show _=bd tV fun n=>bd fV fun _=>rt (⟨x1,x2,n⟩:Val) by rw[if_pos hy]);clear hy;go_wp2_with fail;clear l1;refine po HS HB (MX _ (HR.out.low qe)) ?_;clear HS HB HR;rintro x4 u4 v4 w4-HS b4 ⟨rfl,-⟩ HR HB;exact acG
 · have hb:(x2==2)=false:=by simp[hy]
   replace HS:=abW HS (show _=bd yB fun n=>bd fV fun _=>rt (⟨x1,x2,n⟩:Val) by rw[if_neg hy]);clear hy;go_wp2_with fail;clear l1;refine po HS HB (Lp _ (HR.out.low qe)) ?_;clear HS HB HR;rintro x4 u4 v4 w4-HS b4 rfl HR HB;exact acG
theorem Nr {p:Prop} (h:p:=by
 exact ak rfl _ _ w.heap.size 268 _ (0,0) _ rfl (J8 Z.out rfl) underlying268 rfl dx
 ):p:=h
theorem TY {p:Prop} (h:p:=by rw[← hW];have bY:=HB.out;exact qe):p:=h
theorem Tu (w:aj) (hR:Rd L g t w):Calls ah 200 #[.pointer (ag ⟨g,0,af⟩)] w (PO L g (VC iK) (run Ab t) w):=by
 have C1:=U (fun W (hW:Rd L g t W)=>yU W hW);have q:=KY (hd t).k (hd t).n (hd t).l (hd t).t;unfold tv at C1;refine eQ hR ?_;clear hR;intro r HS HR HB hg;have Z:=U (bU.new (w:=w) (t:=268) (c:=#[.int .i64 0,.string ⟨#[]⟩,.string ⟨#[]⟩]));have Y:=U (bU.new (w:=w.alloc (.cells #[.int .i64 0,.string ⟨#[]⟩,.string ⟨#[]⟩] 268)) (t:=268) (c:=#[.int .i64 1,.string ⟨#[]⟩,.string ⟨#[]⟩]));have e1:(w.alloc (.cells #[.int .i64 0,.string ⟨#[]⟩,.string ⟨#[]⟩] 268)).heap.size=w.heap.size+1:=by simp
 rw[e1] at Y;clear e1;by_cases hk:(hd t).k=2
 · have hb:((hd t).k==2)=true:=by simp[hk]
   replace HS:=jb (anw HS hk);clear hk;go_enter func200,ntmps200;go_wp2_with fail;refine(C1.out _ (HR.out.low qe)).mono ?_;rintro e w1 ⟨rfl,hb1⟩;have b1:Bt g _ w1:=bS.of hb1;have R1:Rd L g t w1:=HR.out.low (by have q1:Lw g _ w1:=bS.of hb1;exact qe);replace Z:=bV Z w1;replace Y:=bV Y w1;replace HB:=eu HB w1;replace HR:=U R1;clear b1 R1;clear hb1;go_wp2_with fail;clear q;refine po HS HB (kV _ (HR.out.low qe)) ?_;clear HS HB HR;rintro x2 u2 v2 w2-HS b2 ⟨rfl,n0,n1⟩ HR HB;replace Z:=bV Z w2;replace Y:=bV Y w2;clear b2;replace HS:=jb HS;have l0:=Y.out.get (r:=0) rfl;have ff:=fA (i:=0) Y.out;go_wp2_with fail;replace Y:Hid (bU (w2.setCell ⟨w.heap.size+1,0,af⟩ (.int .i64 x2)) (w.heap.size+1) 268 #[.int .i64 x2,.string ⟨#[]⟩,.string ⟨#[]⟩]):=U (eX Y.out);clear l0 ff;refine po HS HB (gI _ _ (HR.out.low qe) bR) ?_;clear HS HB HR;rintro x3 u3 v3 w3-HS b3 rfl HR HB;replace Z:=bV Z w3;replace Y:=bV Y w3;clear b3;replace HS:=lY HS;go_wp2_with fail;refine po HS HB (jo _ (HR.out.low qe)) ?_;clear HS HB HR;rintro x4 u4 v4 w4-HS b4 rfl HR HB;replace Z:=bV Z w4;replace Y:=bV Y w4;clear b4;have l1:=Y.out.get (r:=1) rfl;have ff:=fA (i:=1) Y.out;go_wp2_with fail;replace Y:Hid (bU (w4.setCell ⟨w.heap.size+1,1,af⟩ (.string x4)) (w.heap.size+1) 268 #[.int .i64 x2,.string x4,.string ⟨#[]⟩]):=U (eX Y.out);clear l1 ff;refine po HS HB (jo _ (HR.out.low qe)) ?_;clear HS HB HR;rintro x5 u5 v5 w5-HS b5 rfl HR HB;replace Z:=bV Z w5;replace Y:=bV Y w5;clear b5;have l2:=Y.out.get (r:=2) rfl;have ff:=fA (i:=2) Y.out;obtain⟨W,hW⟩:∃W,w5.setCell ⟨w.heap.size+1,2,af⟩ (.string x5)=W:=⟨_,rfl⟩
   have y5:bU W (w.heap.size+1) 268 #[.int .i64 x2,.string x4,.string x5]:=by rw[← hW];exact eX Y.out
   have z5:bU W w.heap.size 268 #[.int .i64 0,.string ⟨#[]⟩,.string ⟨#[]⟩]:=by rw[← hW];exact cZ Z.out qe
   have B5:Hid (Bt g w W):=U TY;have R5:Hid (Rd L g u5 W):=U (by rw[← hW];exact(HR.out.low qe));replace Y:=U y5;replace Z:=U z5;clear y5 z5 HB HR;obtain⟨p0,p1,p2,fz⟩:=vo Z.out;obtain⟨m0,m1,m2,-⟩:=vo Y.out;go_wp2_with fail;have bY:=B5.out;refine ae (v:=.agg #[.int .i64 x2,.string x4,.string x5]) ?_ rfl (PO.ok (dz HS) qe rfl (R5.out.low qe));exact Nr
 · have hb:((hd t).k==2)=false:=by simp[hk]
   replace HS:=lY (anx HS hk);clear hk;go_enter func200,ntmps200;go_wp2_with fail;refine(C1.out _ (HR.out.low qe)).mono ?_;rintro e w1 ⟨rfl,hb1⟩;have b1:Bt g _ w1:=bS.of hb1;have R1:Rd L g t w1:=HR.out.low (by have q1:Lw g _ w1:=bS.of hb1;exact qe);replace Z:=bV Z w1;replace Y:=bV Y w1;replace HB:=eu HB w1;replace HR:=U R1;clear b1 R1;clear hb1;go_wp2_with fail;clear q;refine po HS HB (jo _ (HR.out.low qe)) ?_;clear HS HB HR;rintro x4 u4 v4 w4-HS b4 rfl HR HB;replace Z:=bV Z w4;replace Y:=bV Y w4;clear b4;have l1:=Y.out.get (r:=1) rfl;have ff:=fA (i:=1) Y.out;go_wp2_with fail;replace Y:Hid (bU (w4.setCell ⟨w.heap.size+1,1,af⟩ (.string x4)) (w.heap.size+1) 268 #[.int .i64 1,.string x4,.string ⟨#[]⟩]):=U (eX Y.out);clear l1 ff;refine po HS HB (jo _ (HR.out.low qe)) ?_;clear HS HB HR;rintro x5 u5 v5 w5-HS b5 rfl HR HB;replace Z:=bV Z w5;replace Y:=bV Y w5;clear b5;have l2:=Y.out.get (r:=2) rfl;have ff:=fA (i:=2) Y.out;obtain⟨W,hW⟩:∃W,w5.setCell ⟨w.heap.size+1,2,af⟩ (.string x5)=W:=⟨_,rfl⟩
   have y5:bU W (w.heap.size+1) 268 #[.int .i64 1,.string x4,.string x5]:=by rw[← hW];exact eX Y.out
   have z5:bU W w.heap.size 268 #[.int .i64 0,.string ⟨#[]⟩,.string ⟨#[]⟩]:=by rw[← hW];exact cZ Z.out qe
   have B5:Hid (Bt g w W):=U TY;have R5:Hid (Rd L g u5 W):=U (by rw[← hW];exact(HR.out.low qe));replace Y:=U y5;replace Z:=U z5;clear y5 z5 HB HR;obtain⟨p0,p1,p2,fz⟩:=vo Z.out;obtain⟨m0,m1,m2,-⟩:=vo Y.out;go_wp2_with fail;have bY:=B5.out;refine ae (v:=.agg #[.int .i64 1,.string x4,.string x5]) ?_ rfl (PO.ok (dz HS) qe rfl (R5.out.low qe));exact Nr
theorem abK (w:aj) (hR:Rd L g t w):Calls ah 201 #[.pointer (ag ⟨g,0,af⟩)] w (PO L g (VC iK) (run IW t) w):=by
 have HN:Hid (∀u x v,Gd u->run Ab u=.ok x v->-1000000000000<=x.co/\x.co<=1000000000000):=U fun u x v hg h=>by
  unfold Ab at h
  cases h1:run (kd 2 (bd num fun n=>bd (exp Ak) fun _=>rt n) (rt 1)) u with
  | no q=>rw[iq h1] at h;cases h
  | ok c q=>
   rw[dK h1] at h;have hc:-1000000000000<=c/\c<=1000000000000:=by
    by_cases hk:(hd u).k=2
    · rw[EN hk] at h1;unfold num at h1
      cases h2:run (bd (tk 2) fun x=>rt x.2) u with
      | no q2=>rw[iq h2] at h1;cases h1
      | ok n q2=>
       rw[dK h2] at h1;have hn:n=(hd u).n:=by rw[dK (yT hk)] at h2;cases h2;rfl
       cases h3:run (exp Ak) q2 with
       | no q3=>rw[iq h3] at h1;cases h1
       | ok _ q3=>rw[dK h3] at h1;cases h1;have:=hg.wf.n;omega
    · rw[yC hk] at h1;cases h1;omega
   cases h2:run fM q with
   | no q2=>rw[iq h2] at h;cases h
   | ok s q2=>
    rw[dK h2] at h
    cases h3:run fM q2 with
    | no q3=>rw[iq h3] at h;cases h
    | ok s2 q3=>rw[dK h3] at h;cases h;exact hc
 refine eQ hR ?_;clear hR;intro r HS HR HB hg;have Z:=U (bU.new (w:=w) (t:=268) (c:=#[.int .i64 0,.string ⟨#[]⟩,.string ⟨#[]⟩]));go_enter func201,ntmps201;go_wp2_with fail;refine ac HS HB (dD _ _ (HR.out.low qe) bR) ?_ ?_
 · clear HS HB HR;rintro w1-HS b1 HR HB;replace Z:=bV Z w1;clear b1;go_wp2_with fail;refine pl HS HB (Tu _ (HR.out.low qe)) ?_;clear HB HR;rintro x2 u2 v2 w2-HL2 b2 rfl HR HB;replace Z:=bV Z w2;clear b2;obtain⟨p0,p1,p2,fz⟩:=vo Z.out;dsimp only [iK];go_wp2_with fail;have bY:=HB.out;refine ae (v:=.agg (iK x2)) ?_ rfl (PO.ok HL2.out qe rfl (HR.out.low qe));exact Nr
 · clear HS HB HR;rintro w1-HS b1 HR HB;replace Z:=bV Z w1;clear b1;go_wp2_with fail;refine po HS HB (gI _ _ (HR.out.low qe) bR) ?_;clear HS HB HR;rintro x2 u2 v2 w2-HS b2 rfl HR HB;replace Z:=bV Z w2;clear b2;go_wp2_with fail;refine po HS HB (Tu _ (HR.out.low qe)) ?_;clear HS HB;rintro x3 u3 v3 w3 r3 HS b3 rfl R3 HB;have hn:=HN.out _ _ _ HR.out.gd r3;replace Z:=bV Z w3;replace HR:=R3;clear b3 r3;have s3:=Z.out.lt;have Y:=U (bU.new (w:=w3) (t:=268) (c:=#[.int .i64 x3.co,.string x3.wh,.string x3.nm]));have hw:wrap64 (-x3.co) = -x3.co:=by unfold wrap64;omega
   obtain⟨W,hW⟩:∃W,(w3.alloc (.cells #[.int .i64 x3.co,.string x3.wh,.string x3.nm] 268)).setCell ⟨w3.heap.size,0,af⟩ (.int .i64 (-x3.co))=W:=⟨_,rfl⟩
   have y5:bU W w3.heap.size 268 #[.int .i64 (-x3.co),.string x3.wh,.string x3.nm]:=by rw[← hW];exact eX Y.out
   have z5:bU W w.heap.size 268 #[.int .i64 0,.string ⟨#[]⟩,.string ⟨#[]⟩]:=by rw[← hW];exact cZ Z.out qe
   have B5:Hid (Bt g w W):=U TY;have R5:Hid (Rd L g u3 W):=U (by rw[← hW];exact(HR.out.low qe));have l0:=Y.out.get (r:=0) rfl;have ff:=fA (i:=0) Y.out;have q0:ai W ⟨_,0,af⟩=ag (.int .i64 (-x3.co)):=y5.get rfl;have q1:ai W ⟨_,1,af⟩=ag (.string x3.wh):=y5.get rfl;have q2:ai W ⟨_,2,af⟩=ag (.string x3.nm):=y5.get rfl;replace Z:=U z5;clear y5 z5 HB HR Y hn;obtain⟨p0,p1,p2,fz⟩:=vo Z.out;dsimp only [iK];go_wp2_with fail;have bY:=B5.out;refine ae (v:=.agg #[.int .i64 (-x3.co),.string x3.wh,.string x3.nm]) ?_ rfl (PO.ok (dz HS) qe rfl (R5.out.low qe));exact Nr
end
end Ps
namespace Ps
open Go.RowKit
open Ex (wu)
open Md (Rec fe Rw At mU KW G7 Qw Qu Kind g_ lW)
structure bZ {α:Type} (T:TypeId) (k:Nat) (R:Rec α) (G:Nat->Prop) (w:aj) (v:av) (l:List α):Prop where
 ex:∃C:List (Array av),C.length=l.length/\(∀i,(h:i<l.length)->(h2:i<C.length)->R (fun b=>G b/\¬v.ownBlock=ag b) w l[i] C[i])/\w.ownsRow 0 T k v l.length (mU C)
 blk:∀b,v.ownBlock=ag b->G b
theorem IE {w w2:aj} {base k n:Nat} {T:TypeId} {v:av} {xs:List av} (h:w.ownsRow base T k v n xs) (hb:∀b,v.ownBlock=ag b->w2.heap[b]?=w.heap[b]?):w2.ownsRow base T k v n xs:=by
 obtain⟨h1,h2|⟨g,cap,cur,rfl,h3,h4,h5⟩⟩:=h
 · exact⟨h1,.inl h2⟩
 · exact⟨h1,.inr ⟨g,cap,cur,rfl,h3,(hb g rfl).trans h4,h5⟩⟩
section
variable {α:Type} {LT T:TypeId} {k:Nat} {R:Rec α} {G H:Nat->Prop} {w w2:aj} {v:av} {l:List α} {x:α}
theorem bZ.own {b:Nat} (h:bZ T k R G w v l) (hv:v.ownBlock=ag b):b<w.heap.size:=by
 obtain⟨C,h1,h2,h3⟩:=h.ex;exact(h3.lt b hv).2
theorem bZ.map (hm:fe R) (h:bZ T k R G w v l) (hs:w.heap.size<=w2.heap.size) (hk:∀b,G b->b<w.heap.size->H b/\w2.heap[b]?=w.heap[b]?):bZ T k R H w2 v l:=by
 have ho:=fun b (hv:v.ownBlock=ag b)=>h.own hv;obtain⟨C,h1,h2,h3⟩:=h.ex;exact⟨⟨C,h1,fun i hi hi2=>hm hs (fun b hg hb=>⟨⟨(hk b hg.1 hb).1,hg.2⟩,(hk b hg.1 hb).2⟩) (h2 i hi hi2),IE h3 fun b hv=>(hk b (h.blk b hv) (ho b hv)).2⟩,fun b hv=>(hk b (h.blk b hv) (ho b hv)).1⟩
theorem bZ.up {lo lo2:Nat} (hm:fe R) (h:bZ T k R (fun b=>lo<=b) w v l) (hb:Up lo w w2) (hl:lo2<=lo):bZ T k R (fun b=>lo2<=b) w2 v l:=h.map hm hb.size fun b hg hlt=>⟨by omega,hb.block b hlt hg⟩
theorem bZ.nil:bZ T k R G w (.slice af 0 0) ([]:List α):=⟨⟨[],rfl,fun i h=>absurd h (Nat.not_lt_zero _),World.ownsRow_nil _ _ _ _⟩,fun b h=>by cases h⟩
theorem bZ.one {c:Array av} (hR:R (fun b=>G b/\b<w.heap.size) w x c) (hm:fe R) (hs:g_ k R) (hg:G w.heap.size):bZ T k R G (w.alloc (.cells c T)) (.slice (ag ⟨w.heap.size,0,af⟩) 1 1) [x]:=by
 have hz:=hs hR;refine⟨⟨[c],rfl,fun i h h2=>?_,?_⟩,fun b hb=>?_⟩
 · have h0:i=0:=by simp at h;omega
   subst h0;exact hm cK (fun b hb hlt=>⟨⟨hb.1,by
    intro e;have:w.heap.size=b:=by simpa [Value.ownBlock] using e
    omega⟩,by
    show(w.heap.push _)[b]?=_
    rw[Array.getElem?_push,if_neg bT]⟩) hR
 · refine⟨by rw[G7 (k:=k) (by intro d hd;rw[List.mem_singleton] at hd;rw[hd];exact hz.1)];rfl,.inr ⟨w.heap.size,1,c,rfl,Nat.zero_le _,World.alloc_heap_new w _,au _,by unfold maxLen;omega,by rw[hz.1];omega,?_⟩⟩;have e:c.toList.length=k:=by rw[Array.length_toList];exact hz.1
   show c.toList.take (1*k)=mU [c]
   rw[List.take_of_length_le bT];simp[mU]
 · have:w.heap.size=b:=by simpa [Value.ownBlock] using hb
   rwa [← this]
theorem bZ.app (I:Kind LT T k) (hm:fe R) (hs:g_ k R) (ho:bZ T k R G w v l) {B:Nat} {c:Array av} (hc:At w B 0 c) (hR:R (fun b=>G b/\¬v.ownBlock=ag b) w x c) (hn:l.length<=1000000) :
 ∃(v':av) (w':aj),(Builtin.append_ #[LT,LT] LT #[v,.slice (ag ⟨B,0,af⟩) 1 1]).run ah w=.ok v' w'/\bZ T k R (fun b=>G b∨w.heap.size<=b) w' v' (l++[x])/\w.grownBy w' v.ownBlock:=by
 have hown:=fun b (hv:v.ownBlock=ag b)=>ho.own hv;have hblk:=ho.blk;obtain⟨C,a1,a2,a3⟩:=ho.ex;have hz0:∀d∈C,d.size=k:=fun d hd=>by
  obtain⟨i,hi,rfl⟩:=List.getElem_of_mem hd;exact(hs (a2 i bT hi)).1
 have hz:=hs hR;obtain⟨i0,z,hi0,hi1,hi2,hi3,hi4⟩:=I.info;have hmx:(l.length+1)*i0.bytes<=140737488355328:=by
  have h1:(l.length+1)*i0.bytes<=1000001*1000:=Nat.mul_le_mul bT hi4;omega
 have hf:mU [c]=c.toList:=by simp[mU]
 obtain⟨v',w',e1,e2,e3,-,e5⟩:=run_append_own_at (P:=ah) w 0 LT LT T i0 z k i0.bytes I.slice hi0 hi1 hi2 rfl hi3 I.pos v l.length _ a3 ⟨B,0,af⟩ 1 1 (mU [c]) (by rw[hf,Array.length_toList,hz.1];omega) (fun j u hu=>by
  rw[hf,Array.getElem?_toList] at hu;have:=hc j u hu;rw[Nat.zero_add] at this;rw[wu,Nat.zero_add];exact this) (Qw fun d hd=>by rw[List.mem_singleton] at hd;rw[hd];exact hz.2) Ga hmx (Nat.zero_le _)
 have hne:∀b,b<w.heap.size->¬v.ownBlock=ag b->¬v'.ownBlock=ag b:=fun b hb h1 h2=>by
  rcases e5 with e5|e5
  · rw[e5] at h2;exact h1 h2
  · rw[e5] at h2;injection h2 with h2;omega
 have keep:∀{y:α} {d:Array av},R (fun b=>G b/\¬v.ownBlock=ag b) w y d->R (fun b=>(G b∨w.heap.size<=b)/\¬v'.ownBlock=ag b) w' y d:=fun {y d} hr=>hm e3.size (fun b hb hlt=>⟨⟨.inl hb.1,hne b hlt hb.2⟩,e3.block b hlt (fun he=>hb.2 he.symm)⟩) hr;refine⟨v',w',e1,⟨⟨C++[c],by simp[a1],fun i hi hi2=>?_,?_⟩,fun b hb=>?_⟩,e3⟩
 · rw[List.getElem_append,List.getElem_append];by_cases h0:i<l.length
   · rw[dif_pos h0,dif_pos bT];exact keep (a2 i h0 bT)
   · rw[dif_neg h0,dif_neg bT];have e:i=l.length:=by simp at hi;omega
     subst e;simp only[a1,Nat.sub_self,List.getElem_cons_zero];exact keep hR
 · rw[Qu,List.length_append];exact e2
 · rcases e5 with e5|e5
   · rw[e5] at hb;exact .inl (hblk b hb)
   · rw[e5] at hb;injection hb with hb;exact .inr bT
theorem bZ.rw (hm:fe R) (hs:g_ k R) (h:bZ T k R G w v l) (hn:l.length<=1000000):∃p c,v=.slice p l.length c/\Rw k R G w l p l.length:=by
 have hblk:=h.blk;obtain⟨C,h1,h2,h3⟩:=h.ex;rcases h3.2 with⟨rfl,h0⟩|⟨g,cap,cur,rfl,hb,hg,-⟩
 · exact⟨af,0,by rw[h0],rfl,by omega,.inl h0⟩
 · have hgl:g<w.heap.size:=(Array.getElem?_eq_some_iff.1 hg).1;have hL:∀c∈C,c.size=k:=fun c hc=>by
    obtain⟨i,hi,rfl⟩:=List.getElem_of_mem hc;exact(hs (h2 i bT hi)).1
   refine⟨ag ⟨g,0,af⟩,cap,rfl,rfl,by omega,.inr ⟨g,0,rfl,hblk g rfl,hgl,U fun i hi=>?_⟩⟩;have hi2:i<C.length:=by omega
   have hR:=h2 i hi hi2;refine⟨C[i],(hs hR).1,fun r u hu=>?_,hm (au _) (fun b hb _=>⟨hb.1,rfl⟩) hR⟩;exact zzh
end
def VL {α:Type} (k:Nat) (R:Rec α) (lo:Nat) (w:aj) (l:List α) (v:av):Prop:=∃p m c,v=.slice p m c/\Rw k R (fun b=>lo<=b) w l p m
def VR {α:Type} (R:Rec α) (lo:Nat) (w:aj) (x:α) (v:av):Prop:=∃c,v=.agg c/\R (fun b=>lo<=b) w x c
theorem bS.grown {S:Nat->Prop} {a w w2:aj} {row:Option Nat} (h:bS S a w) (hg:w.grownBy w2 row) (hr:∀b,row=ag b->a.heap.size<=b∨¬S b):bS S a w2:=
 ⟨hg.os.trans h.os, hg.tape.trans h.tape, hg.output.trans h.output, Nat.le_trans h.size hg.size, fun k hk hs => (hg.block k (Nat.lt_of_lt_of_le hk h.size) (fun e => by
   rcases hr k e.symm with g|g
   · omega
   · exact g hs)).trans (h.block k hk hs)⟩
def kD:Rec (Int×Int):=fun _ _ x c=>c=rG x
theorem kD.map:fe kD:=by intro G H w w2 _ _ x c h;exact h
theorem Su:g_ 2 kD:=by intro G w x c h;subst h;exact⟨rfl,by simp[rG,Value.oneCell']⟩
theorem kPr:Kind 254 256 2:=lW underlying254 (z:=.agg #[.int .i64 0,.int .i64 0]) (b:=16) dx bR bR bR
end Ps
namespace Ps
open Go.RowKit
open Lx (Tk)
open Md (bU)
section
variable {L:Lk} {g:Nat} {t:List Tk}
structure aem (L:Lk) (g:Nat) (r:R (List (Int×Int))) (w:aj) (k:Nat) (v:av) (wr:aj):Prop where
 ex:∃l u,run (Fg k l) u=r/\u.length<k/\l.length+u.length<=30000/\bZ 256 2 kD (fun b=>w.heap.size<=b) wr v l/\Rd L g u wr
 bt:Bt g w wr
theorem aaU (w:aj) (hR:Rd L g t w):Calls ah 184 #[.pointer (ag ⟨g,0,af⟩)] w (PO L g (VL 2 kD) (run zS t) w):=by
 have hd0:Hid (∀x u,run pr t=.ok x u->u.length+3<=t.length):=U (fun x u h=>(Kz.out hR.gd h).2);have ht:=hR.small;refine eQ hR ?_;clear hR;intro r HS HR HB hg;go_enter func184,ntmps184;go_wp2_with fail;refine po HS HB (aaT _ (HR.out.low qe)) ?_;clear HS HB HR;rintro x1 u1 v1 w1 r1 HS b1 rfl HR HB;have hl1:=hd0.out _ _ r1;clear b1 r1 hd0;have o1:bZ 256 2 kD (fun b=>w.heap.size<=b) (w1.alloc (.cells (rG x1) 256)) (.slice (ag ⟨w1.heap.size,0,af⟩) 1 1) [x1]:=bZ.one rfl kD.map Su HB.out.size;have HO:=U o1;have HT:=U hl1;unfold rG at o1;unfold rG;clear o1 hl1;go_wp2_with fail;go_loopg [3] FU (aem L g r w)
 case atStart=>
  have h1:=HT.out;exact⟨⟨[x1],u1,HS.out,by unfold FU;omega,by simp;omega,HO.out,(HR.out.low qe)⟩,by have bY:=HB.out;exact qe⟩
 case round=>
  obtain⟨⟨l,u,hs,hk,hl,ho,hR⟩,hb⟩:=hrel;clear HS HB HR HO HT;obtain⟨k,rfl⟩:∃k,gk=k+1:=⟨gk-1,by omega⟩
  rw[Fg] at hs;have C1:=U (fun W (hW:Rd L g u W)=>yU W hW);have q:=KY (hd u).k (hd u).n (hd u).l (hd u).t;unfold tv at C1;have HL:=U hl;have HK:=U hk;have HO:=U ho;have HR:=U hR;have HB:=U hb;have HS:=U hs;by_cases h2:(hd u).k=2
  · have hb2:((hd u).k==2)=true:=by simp[h2]
    replace HS:=SV HS h2;have hd0:Hid (∀x v,run pr u=.ok x v->v.length+3<=u.length):=U (fun x v h=>(Kz.out hR.gd h).2);clear h2 hl hk ho hR hb hs;go_wp2_with fail;refine(C1.out _ HR.out).mono ?_;rintro e w2 ⟨rfl,hb1⟩;replace HR:Hid (Rd L g u w2):=U (HR.out.low (bS.of hb1));have o2:bZ 256 2 kD (fun b=>w.heap.size<=b) w2 u3 l:=HO.out.up kD.map (bS.of hb1) (au _);replace HO:=U o2;replace HB:Hid (Bt g w w2):=U (HB.out.below hb1);clear hb1 o2;go_wp2_with fail;clear q;refine po HS HB (aaT _ (HR.out.low qe)) ?_;clear HS HB HR;rintro x3 u3' v3 w3 r3 HS b3 rfl HR HB;have hl1:=hd0.out _ _ r3;have o3:bZ 256 2 kD (fun b=>w.heap.size<=b) w3 u3 l:=HO.out.up kD.map (b3.mono fun k _ hk=>by have:w.heap.size<=k:=hk;omega) (au _);have HT:=U hl1;replace HO:=U o3;clear b3 r3 hd0 hl1 o3;have o4:bZ 256 2 kD (fun b=>w.heap.size<=b) (w3.alloc (.cells (rG x3) 256)) u3 l:=HO.out.up kD.map qe (au _);have c4:bU (w3.alloc (.cells (rG x3) 256)) w3.heap.size 256 (rG x3):=bU.new;obtain⟨v5,w5,hrun,o5,hg5⟩:=o4.app kPr kD.map Su c4.cell (x:=x3) rfl nT;have s3:=HB.out.size;have B5:Hid (Bt g w w5):=U (bS.grown qh hg5 fun b hb=>.inl (o4.blk b hb));have R5:Hid (Rd L g u3' w5):=U (HR.out.low (bS.grown qe hg5 fun b hb=>.inr BL));have O5:Hid (bZ 256 2 kD (fun b=>w.heap.size<=b) w5 v5 (l++[x3])):=U (o5.map kD.map (au _) fun b hb _=>⟨by
     rcases hb with hb|hb
     · exact hb
     · have e:(w3.alloc (.cells (rG x3) 256)).heap.size=w3.heap.size+1:=by simp
       omega,rfl⟩)
    unfold rG at hrun;clear o4 c4 o5 hg5 HB HR HO;unfold rG;go_wp2_with (at_builtin;refine Lib.wpList_append_run _ rfl _ _ _ _ rfl _ _ rfl rfl _ _ hrun ?_)
    go_roundg k
    case measure=>omega
    case rel=>
     have h1:=HT.out;have h2:=HK.out;have h3:=HL.out;exact⟨⟨_,u3',HS.out,by omega,by simp;omega,O5.out,R5.out⟩,B5.out⟩
  · have hb2:((hd u).k==2)=false:=by simp[h2]
    replace HS:=SX HS h2;clear h2 hl hk ho hR hb hs;go_wp2_with fail;refine(C1.out _ HR.out).mono ?_;rintro e w2 ⟨rfl,hb1⟩;replace HR:Hid (Rd L g u w2):=U (HR.out.low (bS.of hb1));have o2:bZ 256 2 kD (fun b=>w.heap.size<=b) w2 u3 l:=HO.out.up kD.map (bS.of hb1) (au _);obtain⟨p,c,rfl,hrw⟩:=o2.rw kD.map Su nT;have HW:=U hrw;replace HB:Hid (Bt g w w2):=U (HB.out.below hb1);clear hb1 o2 hrw HO;go_wp2_with fail;go_ret;exact PO.ok (dz HS) HB.out ⟨p,_,c,rfl,HW.out⟩ HR.out
end
end Ps
namespace Ps
open Ps.P (len)
open Go.RowKit
open Lx (Tk bs)
open Ex (Ex Gives bX nI iQ)
open Md (Rec fe Rw At bU Kind g_ lW)
def cu (x:Ex) (p:Option Addr) (m c:Nat):Array av:=#[.int .i64 x.o,.string x.s,.int .i64 x.n,.slice p m c]
def iN:Rec Ex:=fun G w x c=>∃p m cc,c=cu x p m cc/\bX G w x p m
theorem iN.map:fe iN:=by
 intro G H w w2 hs hk x c ⟨p,m,cc,h1,h2⟩;exact⟨p,m,cc,h1,bX.map hs hk x h2⟩
theorem ME:g_ 4 iN:=by
 intro G w x c ⟨p,m,cc,h1,h2⟩;subst h1;exact⟨rfl,by simp[cu,Value.oneCell']⟩
theorem kEx:Kind 23 25 4:=lW underlying23 (z:=.agg #[.int .i64 0,.string ⟨#[]⟩,.int .i64 0,.slice af 0 0]) (b:=56) dx bR bR bR
theorem Gu {w:aj} {b o:Nat} {x:Ex} {p:Option Addr} {m c:Nat}:At w b o (cu x p m c)↔iQ w b o x p m c:=by
 constructor
 · intro h;exact⟨by have:=h 0 _ rfl;rwa [Nat.add_zero] at this,h 1 _ rfl,h 2 _ rfl,h 3 _ rfl⟩
 · rintro⟨h0,h1,h2,h3⟩ r v hv;have hr:r<4:=(Array.getElem?_eq_some_iff.1 hv).1
   match r,hr,hv with
   | 0,_,hv=>cases hv;rw[Nat.add_zero];exact h0
   | 1,_,hv=>cases hv;exact h1
   | 2,_,hv=>cases hv;exact h2
   | 3,_,hv=>cases hv;exact h3
theorem Rm {G:Nat->Prop} {w:aj} {o:Int} {s:ByteArray} {n:Int} {l:List Ex} {p:Option Addr} {m:Nat}:bX G w (.mk o s n l) p m↔Rw 4 iN G w l p m:=by
 rw[nI];constructor
 · rintro⟨h1,h2,h3|⟨b,o',rfl,hg,hb,hc⟩⟩
   · exact⟨h1,h2,.inl h3⟩
   · refine⟨h1,h2,.inr ⟨b,o',rfl,hg,hb,U fun i hi=>?_⟩⟩;obtain⟨q,j,c,h5,h6⟩:=hc.out i hi;exact⟨cu l[i] q j c,rfl,Gu.2 h5,q,j,c,rfl,h6⟩
 · rintro⟨h1,h2,h3|⟨b,o',rfl,hg,hb,hc⟩⟩
   · exact⟨h1,h2,.inl h3⟩
   · refine⟨h1,h2,.inr ⟨b,o',rfl,hg,hb,U fun i hi=>?_⟩⟩;obtain⟨c,h4,h5,q,j,cc,rfl,h6⟩:=hc.out i hi;exact⟨q,j,cc,Gu.1 h5,h6⟩
def VX (lo:Nat) (w:aj) (x:Ex) (v:av):Prop:=∃p m c,v=.agg (cu x p m c)/\bX (fun b=>lo<=b) w x p m
theorem xg (o:Int) (p:Option Addr) (m c:Nat) (w:aj):Calls ah 116 #[.int .i64 o,.slice p m c] w (Gives (.agg #[.int .i64 o,.string ⟨#[]⟩,.int .i64 0,.slice p m c]) w):=by
 go_enter func116,ntmps116;go_wp2_with fail;refine ae (v:=.agg #[.int .i64 o,.string ⟨#[]⟩,.int .i64 0,.slice p m c]) ?_ rfl ⟨rfl,bl⟩;exact ak rfl _ _ w.heap.size 25 _ (0,0) _ rfl bU.new underlying25 rfl dx
def zk:Rec (ByteArray×Int):=fun _ _ x c=>c=#[.string x.1,.int .i64 x.2]
theorem zk.map:fe zk:=by intro G H w w2 _ _ x c h;exact h
def mV:List (ByteArray×Int)->List Tk->Option Int
 | [],_=>af
 | o::r,t=>if is o.1 t=true then ag o.2 else mV r t
theorem aaP {α:Type} {A:Int->P α} {B:P α} {t:List Tk} {o:Int}:∀{os:List (ByteArray×Int)},mV os t=ag o->run (tJ A B os) t=run (A o) t.tail
 | [],h=>by cases h
 | q::r,h=>by
  unfold mV at h;unfold tJ
  cases hi:is q.1 t with
  | true=>rw[hi,if_pos rfl] at h;cases h;rw[nW hi]
  | false=>rw[hi,if_neg bR] at h;rw[ek hi];exact aaP h
theorem aaO {α:Type} {A:Int->P α} {B:P α} {t:List Tk}:∀{os:List (ByteArray×Int)},mV os t=af->run (tJ A B os) t=run B t
 | [],h=>rfl
 | q::r,h=>by
  unfold mV at h;unfold tJ
  cases hi:is q.1 t with
  | true=>rw[hi,if_pos rfl] at h;cases h
  | false=>rw[hi,if_neg bR] at h;rw[ek hi];exact aaO h
theorem Xo {α:Type} {l:List α} {k:Nat} {x:α} (h:l[k]?=ag x):l.drop k=x::l.drop (k+1):=by
 obtain⟨hk,e⟩:=List.getElem?_eq_some_iff.1 h;rw[List.drop_eq_getElem_cons hk,e]
theorem ail {t:List Tk} {os:List (ByteArray×Int)} {k:Nat} {q:ByteArray×Int} (hk:os[k]?=ag q) (h:is q.1 t=false):mV (os.drop k) t=mV (os.drop (k+1)) t:=by
 rw[Xo hk,mV,h,if_neg bR]
theorem aik {t:List Tk} {os:List (ByteArray×Int)} {k:Nat} {q:ByteArray×Int} (hk:os[k]?=ag q) (h:is q.1 t=true):mV (os.drop k) t=ag q.2:=by
 rw[Xo hk,mV,h,if_pos rfl]
def OO (L:Lk) (g:Nat) (os:List (ByteArray×Int)) (t:List Tk) (w:aj) (e:Ending) (w':aj):Prop:=
 Bt g w w'/\((∃o,mV os t=ag o/\e=.returned (.tuple #[.int .i64 o,.bool true])/\Rd L g t.tail w')∨(mV os t=af/\e=.returned (.tuple #[.int .i64 0,.bool false])/\Rd L g t w'))
structure ael (L:Lk) (g:Nat) (os:List (ByteArray×Int)) (t:List Tk) (w:aj) (n:Nat) (v:av) (wr:aj):Prop where
 ex:∃k,k+n=os.length+1/\0<n/\v=.int .i64 ((k:Nat):Int)/\mV os t=mV (os.drop k) t
 rd:Rd L g t wr
 bt:Bt g w wr
section
variable {L:Lk} {g:Nat} {t:List Tk}
theorem aev (os:List (ByteArray×Int)) (p:Option Addr) (m c:Nat) (w:aj) (hR:Rd L g t w) (ho:Rw 2 zk (fun b=>¬b=g) w os p m) (hs:∀q∈os,¬bs q.1=[]):Calls ah 115 #[.pointer (ag ⟨g,0,af⟩),.slice p m c] w (OO L g os t w):=by
 obtain⟨hl,hm⟩:=ho.len;have HL:=U hl;have HM:=U hm;have HO:=U ho;have HR:=U hR;have Ov:=U hs;clear hl hm ho hR hs;go_enter func115,ntmps115;go_wp2_with fail;go_loopg [10] (os.length+1) (ael L g os t w)
 case atStart=>exact⟨⟨0,by omega,by omega,rfl,rfl⟩,HR.out,by exact qe⟩
 case round=>
  obtain⟨⟨k,hk,h0,rfl,hf⟩,hR,hb⟩:=hrel;have h30:=hR.few;by_cases hkl:k<os.length
  · obtain⟨b,o,hpe,hbg,hlt,hcc⟩:=HO.out.rows (by rw[← HL.out];omega);obtain⟨cc,hc1,hc2,hc3⟩:=hcc.out k hkl;obtain⟨⟨s,op⟩,hso⟩:∃q,os[k]=q:=⟨_,rfl⟩
    rw[hso] at hc3;have hc3:cc=#[.string s,.int .i64 op]:=hc3;subst hc3;subst hpe;have hne:=Ov.out os[k] (List.getElem_mem hkl);rw[hso] at hne;have hcw:At wr b (o+k*2) #[.string s,.int .i64 op]:=hc2.keep (hb.block b hlt hbg);have q0:wr.cell? ⟨b,o+k*2,af⟩=ag (.string s):=by have:=hcw.get (r:=0) rfl;rwa [Nat.add_zero] at this
    have q1:wr.cell? ⟨b,o+k*2+1,af⟩=ag (.int .i64 op):=hcw.get (r:=1) rfl;have k0:(0:Int)<=(k:Int):=by omega
    have k1:(k:Int)<(m:Int):=by have:=HL.out;omega
    have k2:decide ((k:Int)<(m:Int))=true:=decide_eq_true k1;have hw:IntKind.i64.wrap ((k:Int)+1)=((k+1:Nat):Int):=by rw[IntKind.wrap_i64];have:=HM.out;omega
    have HQ:Hid (os[k]?=ag (s,op)):=U (by rw[List.getElem?_eq_getElem hkl,hso]);have hkm:k<m:=by have:=HL.out;omega
    have HN:=U hne;have HR2:=U hR;have HB:=U hb;have HF:=U hf;have HK:=U hk;clear hR hb hf hk hcw hc2 hcc hne hso hkl hc1 HO hc3;go_wp2_with fail;refine(dD s _ (HR2.out.low qe) HN.out).mono ?_;rintro e w1 ⟨b1,⟨i1,rfl,R1⟩|⟨i1,rfl,R1⟩⟩
    · have hr:mV os t=ag op:=HF.out.trans (aik HQ.out i1);have HH:=U hr;have B1:Hid (Bt g w w1):=U (by have q:Bt g w wr:=HB.out;exact qe);have R2:=U R1;have z1:(wr.alloc (.cells #[.string s,.int .i64 op] 133)).cell? ⟨wr.heap.size,1,af⟩=ag (.int .i64 op):=by rw[World.cell?_alloc_mark];rfl
      have z2:bU w1 wr.heap.size 133 #[.string s,.int .i64 op]:=ae2 (g:=g) bU.new b1 (by have:=HR2.out.blk;omega);have z3:=z2.get (r:=1) rfl;clear hr b1 i1 R1 z1 z2 q0 q1 HF;go_wp2_with fail;refine ae (v:=.tuple #[.int .i64 op,.bool true]) (by simp[results,results115,go_sem]) rfl ⟨B1.out,.inl ⟨op,HH.out,rfl,R2.out⟩⟩
    · have hr:mV os t=mV (os.drop (k+1)) t:=HF.out.trans (ail HQ.out i1);have HH:=U hr;have B1:=U b1;have R2:=U R1;clear hr b1 i1 R1 q0 q1 HF;have B2:Hid (Bt g w w1):=U (by have q:Bt g w wr:=HB.out;have q2:=B1.out;exact qe);go_wp2_with fail;go_roundg (gk-1)
      case measure=>omega
      case rel=>
       have h1:=HK.out;exact⟨⟨k+1,by omega,by have:=HL.out;omega,rfl,HH.out⟩,R2.out,B2.out⟩
  · have e:os.drop k=[]:=List.drop_of_length_le bT;have hn:mV os t=af:=by rw[hf,e];rfl
    have k2:decide ((k:Int)<(m:Int))=false:=decide_eq_false nT;have k3:¬((k:Int)<(m:Int)):=by have:=HL.out;omega
    have HH:=U hn;have B2:=U hb;have R2:=U hR;clear hf hb hR hn e hk hkl;go_wp2_with fail;exact ae (v:=.tuple #[.int .i64 0,.bool false]) (by simp[results,results115,go_sem]) rfl ⟨B2.out,.inr ⟨HH.out,rfl,R2.out⟩⟩
end
end Ps
namespace Ps
open Ps.P (bd)
open Go.RowKit
open Lx (Tk bs)
open Ex (Ex bX)
open Md (Rw bU)
theorem wS {G:Nat->Prop} {w:aj} {x y:Ex} {p q:Option Addr} {m n c d:Nat} (o:Int) (hx:bX G w x p m) (hy:bX G w y q n) (hg:G w.heap.size):bX G (w.alloc (.cells #[.int .i64 x.o,.string x.s,.int .i64 x.n,.slice p m c,.int .i64 y.o,.string y.s,.int .i64 y.n,.slice q n d] 25)) (dZ o x y) (ag ⟨w.heap.size,0,af⟩) 2:=by
 have hk:∀(z:Ex) (r:Option Addr) (j:Nat),bX G w z r j->bX G (w.alloc (.cells #[.int .i64 x.o,.string x.s,.int .i64 x.n,.slice p m c,.int .i64 y.o,.string y.s,.int .i64 y.n,.slice q n d] 25)) z r j:=fun z r j h=>Ex.bX.map cK (fun b hb hlt=>⟨hb,by show(w.heap.push _)[b]?=_;rw[Array.getElem?_push,if_neg bT]⟩) z h;have hb:bU (w.alloc (.cells #[.int .i64 x.o,.string x.s,.int .i64 x.n,.slice p m c,.int .i64 y.o,.string y.s,.int .i64 y.n,.slice q n d] 25)) w.heap.size 25 _:=bU.new;refine Rm.2 ⟨rfl,by omega,.inr ⟨w.heap.size,0,rfl,hg,by simp,U fun i hi=>?_⟩⟩
 match i,hi with
 | 0,_=>exact⟨cu x p m c,rfl,Gu.2 ⟨hb.get rfl,hb.get rfl,hb.get rfl,hb.get rfl⟩,p,m,c,rfl,hk x p m hx⟩
 | 1,_=>exact⟨cu y q n d,rfl,Gu.2 ⟨hb.get rfl,hb.get rfl,hb.get rfl,hb.get rfl⟩,q,n,d,rfl,hk y q n hy⟩
theorem H9 {G:Nat->Prop} {w:aj} {x:Ex} {p:Option Addr} {m c:Nat} (o:Int) (hx:bX G w x p m) (hg:G w.heap.size):bX G (w.alloc (.cells #[.int .i64 x.o,.string x.s,.int .i64 x.n,.slice p m c] 25)) (jq o x) (ag ⟨w.heap.size,0,af⟩) 1:=by
 have hk:bX G (w.alloc (.cells #[.int .i64 x.o,.string x.s,.int .i64 x.n,.slice p m c] 25)) x p m:=Ex.bX.map cK (fun b hb hlt=>⟨hb,by show(w.heap.push _)[b]?=_;rw[Array.getElem?_push,if_neg bT]⟩) x hx;have hb:bU (w.alloc (.cells #[.int .i64 x.o,.string x.s,.int .i64 x.n,.slice p m c] 25)) w.heap.size 25 _:=bU.new;refine Rm.2 ⟨rfl,by omega,.inr ⟨w.heap.size,0,rfl,hg,by simp,U fun i hi=>?_⟩⟩
 match i,hi with
 | 0,_=>exact⟨cu x p m c,rfl,Gu.2 ⟨hb.get rfl,hb.get rfl,hb.get rfl,hb.get rfl⟩,p,m,c,rfl,hk⟩
structure ad1 (L:Lk) (g:Nat) (r:R Ex) (m:P Ex) (os:List (ByteArray×Int)) (N:Nat) (w:aj) (B:Nat) (k:Nat) (wr:aj):Prop where
 ex:∃e u p j c,run (ql m os k e) u=r/\u.length<k/\u.length<=N/\bU wr B 25 (cu e p j c)/\bX (fun b=>w.heap.size<b/\¬b=B) wr e p j/\Rd L g u wr
 bt:Bt g w wr
 res:∃z,z.size=4/\bU wr w.heap.size 25 z
theorem four {z:Array av} (h:z.size=4):∃a b c d,z=#[a,b,c,d]:=by
 match z,h with
 | ⟨[a,b,c,d]⟩,_=>exact⟨a,b,c,d,rfl⟩
theorem af0 {m:P Ex} {os:List (ByteArray×Int)} {k:Nat} {e:Ex} {u:List Tk} {r:R Ex} (H:Hid (run (ql m os (k+1) e) u=r)) (h:mV os u=af):r=.ok e u:=by
 have:=H.out;rw[ql,aaO h] at this;exact this.symm
theorem af1 {m:P Ex} {os:List (ByteArray×Int)} {k:Nat} {e:Ex} {u:List Tk} {r:R Ex} {o:Int} (H:Hid (run (ql m os (k+1) e) u=r)) (h:mV os u=ag o):Hid (run (bd m fun y=>ql m os k (dZ o e y)) u.tail=r):=by
 have:=H.out;rw[ql,aaP h] at this;exact U this
section
variable {L:Lk} {g:Nat} {t:List Tk}
theorem Ns {p:Prop} (h:p:=by have hgB:¬w1.heap.size=g:=(by omega);exact qe):p:=h
theorem Kl (f:FuncId) (m:P Ex) (os:List (ByteArray×Int)) (p:Option Addr) (n c:Nat) (w:aj) (hR:Rd L g t w)
 (hC:∀W u,Rd L g u W->u.length<=t.length->Calls ah f #[.pointer (ag ⟨g,0,af⟩)] W (PO L g VX (run m u) W))
 (hf:∀(a:Array av) (W:aj),(callFunc f a).run ah W=.ok (.enter f a) W) (ho:Rw 2 zk (fun b=>¬b=g) w os p n) (hs:∀q∈os,¬bs q.1=[]) (hm:Dn 1 m):Calls ah 69 #[.pointer (ag ⟨g,0,af⟩),.func (.func f) #[] #[],.slice p n c] w (PO L g VX (run (uH m os) t) w):=by
 have HC:=U hC;have HO:Hid (∀W,Bt g w W->Rw 2 zk (fun b=>¬b=g) W os p n):=U fun W hW=>ho.map zk.map hW.size fun b hb hlt=>⟨hb,hW.block b hlt hb⟩
 have Ov:=U hs;have HM:=U hm;have hd0:Hid (∀x u,run m t=.ok x u->u.length+1<=t.length):=U (fun x u h=>(hm.out hR.gd h).2);have hfu:=U hR.fu;clear hC ho hs hm;refine eQ hR ?_;clear hR;intro r HS HR HB hg;have Z:=pW w;go_enter func69,ntmps69;go_wp2_with fail;refine po HS HB (HC.out _ _ (HR.out.low qe) (au _)) ?_;clear HS HB HR;rintro x1 u1 v1 w1 r1 HS b1 ⟨p1,m1,c1,rfl,k1⟩ HR HB;have HT:=U (hd0.out _ _ r1);replace Z:=bV Z w1;clear b1 r1 hd0;have e0:(w.alloc (.cells #[.int .i64 0,.string ⟨#[]⟩,.int .i64 0,.slice af 0 0] 25)).heap.size=w.heap.size+1:=by simp
 rw[e0] at k1;have K1:=U k1;have hz:=Z.out.lt;clear k1 e0;unfold cu;go_wp2_with fail;go_loopg [] FU (ad1 L g r m os t.length w w1.heap.size)
 case atStart=>
  have h1:=HT.out;have h2:=hfu.out;refine⟨⟨x1,u1,p1,m1,c1,HS.out,by omega,by omega,bU.new,?_,(HR.out.low qe)⟩,by have bY:=HB.out;exact qe,_,rfl,cZ Z.out qe⟩;exact Ex.bX.map cK (fun b hb hlt=>⟨⟨by have:w.heap.size+1<=b:=hb;omega,by omega⟩,by show(w1.heap.push _)[b]?=_;rw[Array.getElem?_push,if_neg bT]⟩) x1 K1.out
 case round=>
  obtain⟨⟨e,u,p2,m2,c2,hr,hk,hl,hbx,eH,hR⟩,hb,zz,qU,hzb⟩:=hrel;clear HS HB HR HT K1 Z hfu;obtain⟨k,rfl⟩:∃k,gk=k+1:=⟨gk-1,by omega⟩
  have Ot:=U (HO.out wr hb);have HS:=U hr;have HR:=U hR;have HB:=U hb;have HK:=U hk;have HL:=U hl;have Y:=U hbx;have Ed:=U eH;have Z:=U hzb;have Ox:=U qU;clear hr hR hb hk hl hbx eH hzb qU;go_wp2_with fail;refine(aev os p n c _ HR.out Ot.out Ov.out).mono ?_;rintro e' w2 ⟨b2,⟨o,Ho,rfl,R2⟩|⟨Ho,rfl,R2⟩⟩
  · replace HS:=af1 HS Ho;have hne:¬(hd u).k=0:=by
     intro e;have:=HR.out.gd.last e;have h2:=R2.gd.ne;rw[List.length_tail] at h2;omega
    have HT:=U (HR.out.gd.tail hne).2;have hd2:Hid (∀y v,run m u.tail=.ok y v->v.length+1<=u.tail.length):=U (fun y v h=>(HM.out.out R2.gd h).2);replace Y:=U (cZ (w2:=w2) Y.out Ns);replace Z:=bV Z w2;have b2':=b2;replace HB:=eu HB w2;replace HR:=U R2;replace Ed:Hid (bX (fun b=>w.heap.size<b/\¬b=w1.heap.size) w2 e p2 m2):=U (Ex.bX.map b2'.size (fun b hb hlt=>⟨hb,b2'.block b hlt bT⟩) e Ed.out);clear b2 b2' R2 Ho hne;obtain⟨l0,l1,l2,l3,-⟩:=dM Y.out;have y0:∃z0 z1 z2 z3,zz=#[z0,z1,z2,z3]:=four Ox.out;have fz:∀i,World.frozen? _ ⟨_,i,af⟩=false:=fun i=>fA (i:=i) Y.out;clear y0;go_wp2_with fail;go_region_with (first|(go_at_call 116;refine(xg _ _ _ _ _).mono ?_;rintro e' w4 ⟨rfl,hb4⟩;have q4:Bt g _ w4:=bS.of hb4;have s4:bU w4 w1.heap.size 25 (cu e p2 m2 c2):=cZ s3 Ns;have y0:ai w4 ⟨w1.heap.size,0,af⟩=ag (.int .i64 e.o):=s4.get rfl;have y1:ai w4 ⟨w1.heap.size,1,af⟩=ag (.string e.s):=s4.get rfl;have y2:ai w4 ⟨w1.heap.size,2,af⟩=ag (.int .i64 e.n):=s4.get rfl;have y3:ai w4 ⟨w1.heap.size,3,af⟩=ag (.slice p2 m2 c2):=s4.get rfl;have Cr:∀i,World.frozen? w4 ⟨w1.heap.size,i,af⟩=false:=fun i=>fA (i:=i) s4)|(refine(HC.out _ _ (HR.out.low qe) (by have h1:=HT.out;have h2:=HL.out;omega)).mono ?_;rintro e' w3 h3;rcases h3.cases with⟨x3,u3,v3,r3,rfl,b3,V3,R3⟩|⟨u3,r3,rfl,b3⟩;rotate_left 1;(have bY:=HB.out;exact⟨rfl,PO.no (fw HS (by assumption)) qe⟩);obtain⟨p3,m3,c3,rfl,k3⟩:=V3;dsimp only [cu];have s3:=cZ (w2:=w3) Y.out Ns;have m0:ai w3 ⟨w1.heap.size,0,af⟩=ag (.int .i64 e.o):=s3.get rfl;have sW:ai w3 ⟨w1.heap.size,1,af⟩=ag (.string e.s):=s3.get rfl;have sZ:ai w3 ⟨w1.heap.size,2,af⟩=ag (.int .i64 e.n):=s3.get rfl;have tu:ai w3 ⟨w1.heap.size,3,af⟩=ag (.slice p2 m2 c2):=s3.get rfl))
    all_goals
     have z2:=Y.out.lt;have HD:=U (hd2.out _ _ r3);have HS2:=eY HS r3;have gB:¬w1.heap.size=g:=bT;have Z3:bU w3 w.heap.size 25 zz:=cZ (w2:=w3) Z.out qe;have Z4:bU w4 w.heap.size 25 zz:=cZ Z3 qe;have B4:Bt g w w4:=by have bY:=HB.out;exact qe
     have R4:Rd L g u3 w4:=R3.low (zL hb4);have KE:bX (fun b=>w.heap.size<b/\¬b=w1.heap.size) w3 e p2 m2:=Ex.bX.map (w:=w2) b3.size (fun b hb hlt=>⟨hb,b3.block b hlt bT⟩) e Ed.out;have KX:bX (fun b=>w.heap.size<b/\¬b=w1.heap.size) w3 x3 p3 m3:=k3.mono fun b hb hlt=>by
      have hb2:w2.heap.size<=b:=hb;have hb3:=hz;exact⟨by omega,by omega⟩
     have rY:=b3.size;have aoN:w2.heap.size<=w3.heap.size:=rY;have KN:=wS (c:=c2) (d:=c3) o KE KX ⟨by omega,by omega⟩;have K4:bX (fun b=>w.heap.size<b/\¬b=w1.heap.size) w4 (dZ o e x3) (ag ⟨w3.heap.size,0,af⟩) 2:=Ex.bX.map hb4.size (fun b hb hlt=>⟨hb,hb4.block b hlt⟩) _ KN;have D4:=U s4;have HQ:=U (And.intro Z4 (And.intro B4 (And.intro R4 K4)));clear Z3 Z4 B4 R4 KE KX KN K4 rY r3 k3 h3 R3 b3 hb4 q4 s4 s3 m0 sW sZ tu l0 l1 l2 l3 y0 y1 y2 y3 Cr fz;go_wp2_with fail;go_roundg k
     case measure=>exact Nat.lt_succ_self k
     case rel=>
      obtain⟨Z4,B4,R4,K4⟩:=HQ.out;have h1:=HD.out;have h2:=HT.out;have h3:=HK.out;have h4:=HL.out;have qS:bS (fun b=>w.heap.size<b/\¬b=w1.heap.size) w4 ((((w4.setCell ⟨w1.heap.size,0,af⟩ (.int .i64 o)).setCell ⟨w1.heap.size,1,af⟩ (.string ⟨#[]⟩)).setCell ⟨w1.heap.size,2,af⟩ (.int .i64 0)).setCell ⟨w1.heap.size,3,af⟩ (.slice (ag ⟨w3.heap.size,0,af⟩) 2 2)):=by
       refine bS.set (bS.set (bS.set (bS.set (bS.refl _ _) ?_) ?_) ?_) ?_ <;> exact .inr fun h=>h.2 rfl
      exact⟨⟨dZ o e x3,u3,_,2,2,HS2.out,by omega,by omega,qK D4.out rfl,Ex.bX.map qS.size (fun b hb hlt=>⟨hb,qS.block b hlt hb⟩) _ K4,R4.low qe⟩,by exact qe,zz,Ox.out,cZ Z4 qe⟩
  · have hr:=af0 HS Ho;replace Y:=U (cZ (w2:=w2) Y.out Ns);replace Z:=bV Z w2;have b2':=b2;replace HB:=eu HB w2;replace HR:=U R2;replace Ed:Hid (bX (fun b=>w.heap.size<b/\¬b=w1.heap.size) w2 e p2 m2):=U (Ex.bX.map b2'.size (fun b hb hlt=>⟨hb,b2'.block b hlt bT⟩) e Ed.out);replace HS:=U hr;clear b2 b2' R2 Ho hr;obtain⟨z0,z1,z2,z3,rfl⟩:=four Ox.out;obtain⟨l0,l1,l2,l3,-⟩:=dM Y.out;obtain⟨y0,y1,y2,y3,fz⟩:=dM Z.out;go_wp2_with fail;have bY:=HB.out;refine ae (v:=.agg (cu e p2 m2 c2)) ?_ rfl (PO.ok HS.out qe ⟨p2,m2,c2,rfl,?_⟩ (HR.out.low qe))
    · exact Al
    · refine Ex.bX.map (G:=fun b=>w.heap.size<b/\¬b=w1.heap.size) (w:=w2) cK (fun b hb hlt=>⟨by show w.heap.size<=b;omega,?_⟩) e Ed.out;have q:bS (fun k=>¬k=w.heap.size) w2 ((((w2.setCell ⟨w.heap.size,0,af⟩ (.int .i64 e.o)).setCell ⟨w.heap.size,1,af⟩ (.string e.s)).setCell ⟨w.heap.size,2,af⟩ (.int .i64 e.n)).setCell ⟨w.heap.size,3,af⟩ (.slice p2 m2 c2)):=by exact qe
      exact q.block b hlt bT
end
end Ps
end Go.Proofs.YtkpekhpgdajabaaGreatDoor
