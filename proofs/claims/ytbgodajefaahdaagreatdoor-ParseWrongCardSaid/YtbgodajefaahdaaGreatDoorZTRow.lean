/-
  Parts of this proof: The contracts of the reader's rules for records . Lists that a rule makes. The contract of the reader's pairs. Expressions as values that a rule makes; node; t. The contract of the reader's chain. The contracts of the reader's rules for expressi.
-/
import Derived.Test.YtbgodajefaahdaaGreatDoorZQScp
import Derived.Deep.RegionWith
set_option linter.unusedVariables false
open Go.Lib (hid)
namespace Go.Proofs.YtbgodajefaahdaaGreatDoor.Ps
open Go.Proofs.YtbgodajefaahdaaGreatDoor.Ps.P (rt bd kd tk exp)
open Go.RowKit
open Go.Proofs.YtbgodajefaahdaaGreatDoor.Lx (Tk)
open Go.Proofs.YtbgodajefaahdaaGreatDoor.Md (Box cFld cVal cSto cBlt cTrm Val)
set_option maxHeartbeats 4000000
def cPr (q:Int×Int):Array Value:=#[.int .i64 q.1,.int .i64 q.2]
section
variable {L:Lk} {g:Nat} {t:List Tk}
theorem zBT_0 {p:Prop} (h:p:=by
 have HBB:=HB.out;go_wp2_with fail;exact⟨rfl,PO.no (st_no HS (by assumption)) qe⟩
 ):p:=h
set_option maxRecDepth 100000 in
theorem pair_any (w:World) (hR:Rd L g t w):Calls Tryz.prog 196 #[.pointer (some ⟨g,0,none⟩)] w (PO L g (VC cPr) (run pr t) w):=by
 obtain⟨r,hr⟩:∃r,run pr t=r:=⟨_,rfl⟩
 rw[hr];have HS:=hid hr;have hg:=hR.blk;have HR:=hid hR;have HB:Hid (Bt g w w):=hid (Eqv.refl _ _);clear hR hr;have Z:=hid (Box.new (w:=w) (t:=249) (c:=#[.int .i64 0,.int .i64 0]));go_enter Tryz.func196,Tryz.ntmps196;go_wp2_with fail;refine(number_any _ (HR.out.low qe)).mono ?_;rintro e w1 h1;rcases h1.cases with⟨x1,u1,v1,r1,rfl,b1,V1,R1⟩|⟨u1,r1,rfl,b1⟩
 rotate_left 1
 · exact zBT_0
 replace HS:=st_ok HS r1;replace Z:=hid (box_at (w2:=w1) Z.out qe);replace HB:Hid (Bt g w w1):=hid qh;replace HR:=hid R1;clear b1 R1;clear r1 h1;obtain⟨rfl,n0,n1⟩:=V1;go_wp2_with fail;refine(expect_any _ _ (HR.out.low qe) (by decide)).mono ?_;rintro e w2 h2;rcases h2.cases with⟨x2,u2,v2,r2,rfl,b2,V2,R2⟩|⟨u2,r2,rfl,b2⟩
 rotate_left 1
 · exact zBT_0
 replace HS:=st_ok HS r2;replace Z:=hid (box_at (w2:=w2) Z.out qe);replace HB:Hid (Bt g w w2):=hid qh;replace HR:=hid R2;clear b2 R2;clear r2 h2;obtain rfl:=V2;go_wp2_with fail;refine(number_any _ (HR.out.low qe)).mono ?_;rintro e w3 h3;rcases h3.cases with⟨x3,u3,v3,r3,rfl,b3,V3,R3⟩|⟨u3,r3,rfl,b3⟩
 rotate_left 1
 · exact zBT_0
 replace HS:=st_ok HS r3;replace Z:=hid (box_at (w2:=w3) Z.out qe);replace HB:Hid (Bt g w w3):=hid qh;replace HR:=hid R3;clear b3 R3;clear r3 h3;obtain⟨rfl,m0,m1⟩:=V3;have p0:=Z.out.get (r:=0) rfl;have p1:=Z.out.get (r:=1) rfl;have fz:∀i,World.frozen? _ ⟨_,i,none⟩=false:=fun i=>box_frz (i:=i) Z.out;go_wp2_with fail;have HBB:=HB.out;refine bodyPost_ret (v:=.agg #[.int .i64 x1,.int .i64 x3]) ?_ rfl (PO.ok (st_end HS) qe rfl (HR.out.low qe));exact results_cell_row rfl _ _ w.heap.size 249 _ (0,0) _ rfl (box_set2 Z.out rfl) Tryz.underlying249 rfl (by kernel_rfl)
set_option maxRecDepth 100000 in
theorem field_any (w:World) (hR:Rd L g t w):Calls Tryz.prog 183 #[.pointer (some ⟨g,0,none⟩)] w (PO L g (VC cFld) (run fld t) w):=by
 obtain⟨r,hr⟩:∃r,run fld t=r:=⟨_,rfl⟩
 rw[hr];have HS:=hid hr;have hg:=hR.blk;have HR:=hid hR;have HB:Hid (Bt g w w):=hid (Eqv.refl _ _);clear hR hr;have Z:=hid (Box.new (w:=w) (t:=179) (c:=#[.string ⟨#[]⟩,.int .i64 0]));go_enter Tryz.func183,Tryz.ntmps183;go_wp2_with fail;refine(name_any _ (HR.out.low qe)).mono ?_;rintro e w1 h1;rcases h1.cases with⟨x1,u1,v1,r1,rfl,b1,V1,R1⟩|⟨u1,r1,rfl,b1⟩
 rotate_left 1
 · exact zBT_0
 replace HS:=st_ok HS r1;replace Z:=hid (box_at (w2:=w1) Z.out qe);replace HB:Hid (Bt g w w1):=hid qh;replace HR:=hid R1;clear b1 R1;clear r1 h1;obtain rfl:=V1;go_wp2_with fail;refine(typeWord_any _ (HR.out.low qe)).mono ?_;rintro e w2 h2;rcases h2.cases with⟨x2,u2,v2,r2,rfl,b2,V2,R2⟩|⟨u2,r2,rfl,b2⟩
 rotate_left 1
 · exact zBT_0
 replace HS:=st_ok HS r2;replace Z:=hid (box_at (w2:=w2) Z.out qe);replace HB:Hid (Bt g w w2):=hid qh;replace HR:=hid R2;clear b2 R2;clear r2 h2;obtain rfl:=V2;have p0:=Z.out.get (r:=0) rfl;have p1:=Z.out.get (r:=1) rfl;have fz:∀i,World.frozen? _ ⟨_,i,none⟩=false:=fun i=>box_frz (i:=i) Z.out;go_wp2_with fail;have HBB:=HB.out;refine bodyPost_ret (v:=.agg #[.string x1,.int .i64 x2]) ?_ rfl (PO.ok (st_end HS) qe rfl (HR.out.low qe));exact results_cell_row rfl _ _ w.heap.size 179 _ (0,0) _ rfl (box_set2 Z.out rfl) Tryz.underlying179 rfl (by kernel_rfl)
set_option maxRecDepth 100000 in
theorem store_any (w:World) (hR:Rd L g t w):Calls Tryz.prog 153 #[.pointer (some ⟨g,0,none⟩)] w (PO L g (VC cSto) (run sto t) w):=by
 obtain⟨r,hr⟩:∃r,run sto t=r:=⟨_,rfl⟩
 rw[hr];have HS:=hid hr;have hg:=hR.blk;have HR:=hid hR;have HB:Hid (Bt g w w):=hid (Eqv.refl _ _);clear hR hr;have Z:=hid (Box.new (w:=w) (t:=114) (c:=#[.string ⟨#[]⟩,.int .i64 0,.int .i64 0]));go_enter Tryz.func153,Tryz.ntmps153;go_wp2_with fail;refine(name_any _ (HR.out.low qe)).mono ?_;rintro e w1 h1;rcases h1.cases with⟨x1,u1,v1,r1,rfl,b1,V1,R1⟩|⟨u1,r1,rfl,b1⟩
 rotate_left 1
 · exact zBT_0
 replace HS:=st_ok HS r1;replace Z:=hid (box_at (w2:=w1) Z.out qe);replace HB:Hid (Bt g w w1):=hid qh;replace HR:=hid R1;clear b1 R1;clear r1 h1;obtain rfl:=V1;go_wp2_with fail;refine(number_any _ (HR.out.low qe)).mono ?_;rintro e w2 h2;rcases h2.cases with⟨x2,u2,v2,r2,rfl,b2,V2,R2⟩|⟨u2,r2,rfl,b2⟩
 rotate_left 1
 · exact zBT_0
 replace HS:=st_ok HS r2;replace Z:=hid (box_at (w2:=w2) Z.out qe);replace HB:Hid (Bt g w w2):=hid qh;replace HR:=hid R2;clear b2 R2;clear r2 h2;obtain⟨rfl,n0,n1⟩:=V2;go_wp2_with fail;refine(policy_any _ (HR.out.low qe)).mono ?_;rintro e w3 h3;rcases h3.cases with⟨x3,u3,v3,r3,rfl,b3,V3,R3⟩|⟨u3,r3,rfl,b3⟩
 rotate_left 1
 · exact zBT_0
 replace HS:=st_ok HS r3;replace Z:=hid (box_at (w2:=w3) Z.out qe);replace HB:Hid (Bt g w w3):=hid qh;replace HR:=hid R3;clear b3 R3;clear r3 h3;obtain rfl:=V3;have Y:=hid (Box.new (w:=w3) (t:=114) (c:=#[.string x1,.int .i64 x2,.int .i64 x3]));have s3:=Z.out.lt;go_wp2_with fail;refine(endLine_any _ (HR.out.low qe)).mono ?_;rintro e w4 h4;rcases h4.cases with⟨x4,u4,v4,r4,rfl,b4,V4,R4⟩|⟨u4,r4,rfl,b4⟩
 rotate_left 1
 · exact zBT_0
 replace HS:=st_ok HS r4;replace Z:=hid (box_at (w2:=w4) Z.out qe);replace Y:=hid (box_at (w2:=w4) Y.out qe);replace HB:Hid (Bt g w w4):=hid qh;replace HR:=hid R4;clear b4 R4;clear r4 h4;obtain rfl:=V4;have p0:=Z.out.get (r:=0) rfl;have p1:=Z.out.get (r:=1) rfl;have p2:=Z.out.get (r:=2) rfl;have fz:∀i,World.frozen? _ ⟨_,i,none⟩=false:=fun i=>box_frz (i:=i) Z.out;have l0:=Y.out.get (r:=0) rfl;have l1:=Y.out.get (r:=1) rfl;have l2:=Y.out.get (r:=2) rfl;go_wp2_with fail;have HBB:=HB.out;refine bodyPost_ret (v:=.agg #[.string x1,.int .i64 x2,.int .i64 x3]) ?_ rfl (PO.ok (st_end HS) qe rfl (HR.out.low qe));exact results_cell_row rfl _ _ w.heap.size 114 _ (0,0) _ rfl (box_set3 Z.out rfl) Tryz.underlying114 rfl (by kernel_rfl)
set_option maxRecDepth 100000 in
theorem belt_any (w:World) (hR:Rd L g t w):Calls Tryz.prog 154 #[.pointer (some ⟨g,0,none⟩)] w (PO L g (VC cBlt) (run blt t) w):=by
 obtain⟨r,hr⟩:∃r,run blt t=r:=⟨_,rfl⟩
 rw[hr];have HS:=hid hr;have hg:=hR.blk;have HR:=hid hR;have HB:Hid (Bt g w w):=hid (Eqv.refl _ _);clear hR hr;have Z:=hid (Box.new (w:=w) (t:=116) (c:=#[.string ⟨#[]⟩,.int .i64 0,.int .i64 0]));go_enter Tryz.func154,Tryz.ntmps154;go_wp2_with fail;refine(name_any _ (HR.out.low qe)).mono ?_;rintro e w1 h1;rcases h1.cases with⟨x1,u1,v1,r1,rfl,b1,V1,R1⟩|⟨u1,r1,rfl,b1⟩
 rotate_left 1
 · exact zBT_0
 replace HS:=st_ok HS r1;replace Z:=hid (box_at (w2:=w1) Z.out qe);replace HB:Hid (Bt g w w1):=hid qh;replace HR:=hid R1;clear b1 R1;clear r1 h1;obtain rfl:=V1;go_wp2_with fail;refine(number_any _ (HR.out.low qe)).mono ?_;rintro e w2 h2;rcases h2.cases with⟨x2,u2,v2,r2,rfl,b2,V2,R2⟩|⟨u2,r2,rfl,b2⟩
 rotate_left 1
 · exact zBT_0
 replace HS:=st_ok HS r2;replace Z:=hid (box_at (w2:=w2) Z.out qe);replace HB:Hid (Bt g w w2):=hid qh;replace HR:=hid R2;clear b2 R2;clear r2 h2;obtain⟨rfl,n0,n1⟩:=V2;go_wp2_with fail;refine(number_any _ (HR.out.low qe)).mono ?_;rintro e w3 h3;rcases h3.cases with⟨x3,u3,v3,r3,rfl,b3,V3,R3⟩|⟨u3,r3,rfl,b3⟩
 rotate_left 1
 · exact zBT_0
 replace HS:=st_ok HS r3;replace Z:=hid (box_at (w2:=w3) Z.out qe);replace HB:Hid (Bt g w w3):=hid qh;replace HR:=hid R3;clear b3 R3;clear r3 h3;obtain⟨rfl,m0,m1⟩:=V3;have Y:=hid (Box.new (w:=w3) (t:=116) (c:=#[.string x1,.int .i64 x2,.int .i64 x3]));have s3:=Z.out.lt;go_wp2_with fail;refine(endLine_any _ (HR.out.low qe)).mono ?_;rintro e w4 h4;rcases h4.cases with⟨x4,u4,v4,r4,rfl,b4,V4,R4⟩|⟨u4,r4,rfl,b4⟩
 rotate_left 1
 · exact zBT_0
 replace HS:=st_ok HS r4;replace Z:=hid (box_at (w2:=w4) Z.out qe);replace Y:=hid (box_at (w2:=w4) Y.out qe);replace HB:Hid (Bt g w w4):=hid qh;replace HR:=hid R4;clear b4 R4;clear r4 h4;obtain rfl:=V4;have p0:=Z.out.get (r:=0) rfl;have p1:=Z.out.get (r:=1) rfl;have p2:=Z.out.get (r:=2) rfl;have fz:∀i,World.frozen? _ ⟨_,i,none⟩=false:=fun i=>box_frz (i:=i) Z.out;have l0:=Y.out.get (r:=0) rfl;have l1:=Y.out.get (r:=1) rfl;have l2:=Y.out.get (r:=2) rfl;go_wp2_with fail;have HBB:=HB.out;refine bodyPost_ret (v:=.agg #[.string x1,.int .i64 x2,.int .i64 x3]) ?_ rfl (PO.ok (st_end HS) qe rfl (HR.out.low qe));exact results_cell_row rfl _ _ w.heap.size 116 _ (0,0) _ rfl (box_set3 Z.out rfl) Tryz.underlying116 rfl (by kernel_rfl)
theorem zBT_1 {p:Prop} (h:p:=by
 have l2:=Y.out.get (r:=2) rfl;have ff:=box_frz (i:=2) Y.out;go_wp2_with fail;replace Y:Hid (Box (w4.setCell ⟨w2.heap.size,2,none⟩ (.int .i64 x4)) w2.heap.size 93 #[.string x1,.int .i64 x2,.int .i64 x4]):=hid (box_set Y.out);clear l2 ff;refine(endLine_any _ (HR.out.low qe)).mono ?_;rintro e w5 h5;rcases h5.cases with⟨x5,u5,v5,r5,rfl,b5,V5,R5⟩|⟨u5,r5,rfl,b5⟩
 rotate_left 1
 · exact zBT_0
 replace HS:=st_ok HS r5;replace Z:=hid (box_at (w2:=w5) Z.out qe);replace Y:=hid (box_at (w2:=w5) Y.out qe);replace HB:Hid (Bt g w w5):=hid qh;replace HR:=hid R5;clear b5 R5;clear r5 h5;obtain rfl:=V5;have p0:=Z.out.get (r:=0) rfl;have p1:=Z.out.get (r:=1) rfl;have p2:=Z.out.get (r:=2) rfl;have fz:∀i,World.frozen? _ ⟨_,i,none⟩=false:=fun i=>box_frz (i:=i) Z.out;have l0:=Y.out.get (r:=0) rfl;have l1:=Y.out.get (r:=1) rfl;have l2:=Y.out.get (r:=2) rfl;go_wp2_with fail;have HBB:=HB.out;refine bodyPost_ret (v:=.agg #[.string x1,.int .i64 x2,.int .i64 x4]) ?_ rfl (PO.ok (st_end HS) qe rfl (HR.out.low qe));exact results_cell_row rfl _ _ w.heap.size 93 _ (0,0) _ rfl (box_set3 Z.out rfl) Tryz.underlying93 rfl (by kernel_rfl)
 ):p:=h
set_option maxRecDepth 100000 in
theorem value_any (w:World) (hR:Rd L g t w):Calls Tryz.prog 62 #[.pointer (some ⟨g,0,none⟩)] w (PO L g (VC cVal) (run val t) w):=by
 obtain⟨r,hr⟩:∃r,run val t=r:=⟨_,rfl⟩
 rw[hr];have HS:=hid hr;have hg:=hR.blk;have HR:=hid hR;have HB:Hid (Bt g w w):=hid (Eqv.refl _ _);clear hR hr;have Z:=hid (Box.new (w:=w) (t:=93) (c:=#[.string ⟨#[]⟩,.int .i64 0,.int .i64 0]));go_enter Tryz.func62,Tryz.ntmps62;go_wp2_with fail;refine(name_any _ (HR.out.low qe)).mono ?_;rintro e w1 h1;rcases h1.cases with⟨x1,u1,v1,r1,rfl,b1,V1,R1⟩|⟨u1,r1,rfl,b1⟩
 rotate_left 1
 · exact zBT_0
 replace HS:=st_ok HS r1;replace Z:=hid (box_at (w2:=w1) Z.out qe);replace HB:Hid (Bt g w w1):=hid qh;replace HR:=hid R1;clear b1 R1;clear r1 h1;obtain rfl:=V1;go_wp2_with fail;refine(typeWord_any _ (HR.out.low qe)).mono ?_;rintro e w2 h2;rcases h2.cases with⟨x2,u2,v2,r2,rfl,b2,V2,R2⟩|⟨u2,r2,rfl,b2⟩
 rotate_left 1
 · exact zBT_0
 replace HS:=st_ok HS r2;replace Z:=hid (box_at (w2:=w2) Z.out qe);replace HB:Hid (Bt g w w2):=hid qh;replace HR:=hid R2;clear b2 R2;clear r2 h2;obtain rfl:=V2;have Y:=hid (Box.new (w:=w2) (t:=93) (c:=#[.string x1,.int .i64 x2,.int .i64 0]));have s2:=Z.out.lt;go_wp2_with fail;refine(expect_any _ _ (HR.out.low qe) (by decide)).mono ?_;rintro e w3 h3;rcases h3.cases with⟨x3,u3,v3,r3,rfl,b3,V3,R3⟩|⟨u3,r3,rfl,b3⟩
 rotate_left 1
 · exact zBT_0
 replace HS:=st_ok HS r3;replace Z:=hid (box_at (w2:=w3) Z.out qe);replace Y:=hid (box_at (w2:=w3) Y.out qe);replace HB:Hid (Bt g w w3):=hid qh;replace HR:=hid R3;clear b3 R3;clear r3 h3;obtain rfl:=V3;have l1:=Y.out.get (r:=1) rfl;by_cases hy:x2=2
 · have hb:(x2==2)=true:=by simp[hy]
   replace HS:=st_in HS (show _=bd tru fun n=>bd eol fun _=>rt (⟨x1,x2,n⟩:Val) by rw[if_pos hy]);clear hy;go_wp2_with fail;clear l1;refine(truth_any _ (HR.out.low qe)).mono ?_;rintro e w4 h4;rcases h4.cases with⟨x4,u4,v4,r4,rfl,b4,V4,R4⟩|⟨u4,r4,rfl,b4⟩
   rotate_left 1
   · exact zBT_0
   replace HS:=st_ok HS r4;replace Z:=hid (box_at (w2:=w4) Z.out qe);replace Y:=hid (box_at (w2:=w4) Y.out qe);replace HB:Hid (Bt g w w4):=hid qh;replace HR:=hid R4;clear b4 R4;clear r4 h4;obtain⟨rfl,-⟩:=V4;exact zBT_1
 · have hb:(x2==2)=false:=by simp[hy]
   replace HS:=st_in HS (show _=bd itg fun n=>bd eol fun _=>rt (⟨x1,x2,n⟩:Val) by rw[if_neg hy]);clear hy;go_wp2_with fail;clear l1;refine(integer_any _ (HR.out.low qe)).mono ?_;rintro e w4 h4;rcases h4.cases with⟨x4,u4,v4,r4,rfl,b4,V4,R4⟩|⟨u4,r4,rfl,b4⟩
   rotate_left 1
   · exact zBT_0
   replace HS:=st_ok HS r4;replace Z:=hid (box_at (w2:=w4) Z.out qe);replace Y:=hid (box_at (w2:=w4) Y.out qe);replace HB:Hid (Bt g w w4):=hid qh;replace HR:=hid R4;clear b4 R4;clear r4 h4;obtain rfl:=V4;exact zBT_1
theorem zBT_2 {p:Prop} (h:p:=by
 exact results_cell_row rfl _ _ w.heap.size 181 _ (0,0) _ rfl (box_set3 Z.out rfl) Tryz.underlying181 rfl (by kernel_rfl)
 ):p:=h
theorem zBT_3 {p:Prop} (h:p:=by rw[← hW];have HBB:=HB.out;exact qe):p:=h
set_option maxRecDepth 100000 in
theorem term_any (w:World) (hR:Rd L g t w):Calls Tryz.prog 186 #[.pointer (some ⟨g,0,none⟩)] w (PO L g (VC cTrm) (run trm t) w):=by
 have C1:=hid (fun W (hW:Rd L g t W)=>token_any W hW);have q:=fld_k (hd t).k (hd t).n (hd t).l (hd t).t;unfold tv at C1;obtain⟨r,hr⟩:∃r,run trm t=r:=⟨_,rfl⟩
 rw[hr];have HS:=hid hr;have hg:=hR.blk;have HR:=hid hR;have HB:Hid (Bt g w w):=hid (Eqv.refl _ _);clear hR hr;have Z:=hid (Box.new (w:=w) (t:=181) (c:=#[.int .i64 0,.string ⟨#[]⟩,.string ⟨#[]⟩]));have Y:=hid (Box.new (w:=w.alloc (.cells #[.int .i64 0,.string ⟨#[]⟩,.string ⟨#[]⟩] 181)) (t:=181) (c:=#[.int .i64 1,.string ⟨#[]⟩,.string ⟨#[]⟩]));have e1:(w.alloc (.cells #[.int .i64 0,.string ⟨#[]⟩,.string ⟨#[]⟩] 181)).heap.size=w.heap.size+1:=by simp
 rw[e1] at Y;clear e1;by_cases hk:(hd t).k=2
 · have hb:((hd t).k==2)=true:=by simp[hk]
   replace HS:=st_bb (st_bk HS hk);clear hk;go_enter Tryz.func186,Tryz.ntmps186;go_wp2_with fail;refine(C1.out _ (HR.out.low qe)).mono ?_;rintro e w1 ⟨rfl,hb1⟩;have b1:Bt g _ w1:=Eqv.of hb1;have R1:Rd L g t w1:=HR.out.low (by have q1:Lw g _ w1:=Eqv.of hb1;exact qe);replace Z:=hid (box_at (w2:=w1) Z.out qe);replace Y:=hid (box_at (w2:=w1) Y.out qe);replace HB:Hid (Bt g w w1):=hid qh;replace HR:=hid R1;clear b1 R1;clear hb1;go_wp2_with fail;clear q;refine(number_any _ (HR.out.low qe)).mono ?_;rintro e w2 h2;rcases h2.cases with⟨x2,u2,v2,r2,rfl,b2,V2,R2⟩|⟨u2,r2,rfl,b2⟩
   rotate_left 1
   · exact zBT_0
   replace HS:=st_ok HS r2;replace Z:=hid (box_at (w2:=w2) Z.out qe);replace Y:=hid (box_at (w2:=w2) Y.out qe);replace HB:Hid (Bt g w w2):=hid qh;replace HR:=hid R2;clear b2 R2;clear r2 h2;obtain⟨rfl,n0,n1⟩:=V2;replace HS:=st_bb HS;have l0:=Y.out.get (r:=0) rfl;have ff:=box_frz (i:=0) Y.out;go_wp2_with fail;replace Y:Hid (Box (w2.setCell ⟨w.heap.size+1,0,none⟩ (.int .i64 x2)) (w.heap.size+1) 181 #[.int .i64 x2,.string ⟨#[]⟩,.string ⟨#[]⟩]):=hid (box_set Y.out);clear l0 ff;refine(expect_any _ _ (HR.out.low qe) (by decide)).mono ?_;rintro e w3 h3;rcases h3.cases with⟨x3,u3,v3,r3,rfl,b3,V3,R3⟩|⟨u3,r3,rfl,b3⟩
   rotate_left 1
   · exact zBT_0
   replace HS:=st_ok HS r3;replace Z:=hid (box_at (w2:=w3) Z.out qe);replace Y:=hid (box_at (w2:=w3) Y.out qe);replace HB:Hid (Bt g w w3):=hid qh;replace HR:=hid R3;clear b3 R3;clear r3 h3;obtain rfl:=V3;replace HS:=st_br HS;go_wp2_with fail;refine(name_any _ (HR.out.low qe)).mono ?_;rintro e w4 h4;rcases h4.cases with⟨x4,u4,v4,r4,rfl,b4,V4,R4⟩|⟨u4,r4,rfl,b4⟩
   rotate_left 1
   · exact zBT_0
   replace HS:=st_ok HS r4;replace Z:=hid (box_at (w2:=w4) Z.out qe);replace Y:=hid (box_at (w2:=w4) Y.out qe);replace HB:Hid (Bt g w w4):=hid qh;replace HR:=hid R4;clear b4 R4;clear r4 h4;obtain rfl:=V4;have l1:=Y.out.get (r:=1) rfl;have ff:=box_frz (i:=1) Y.out;go_wp2_with fail;replace Y:Hid (Box (w4.setCell ⟨w.heap.size+1,1,none⟩ (.string x4)) (w.heap.size+1) 181 #[.int .i64 x2,.string x4,.string ⟨#[]⟩]):=hid (box_set Y.out);clear l1 ff;refine(name_any _ (HR.out.low qe)).mono ?_;rintro e w5 h5;rcases h5.cases with⟨x5,u5,v5,r5,rfl,b5,V5,R5⟩|⟨u5,r5,rfl,b5⟩
   rotate_left 1
   · exact zBT_0
   replace HS:=st_ok HS r5;replace Z:=hid (box_at (w2:=w5) Z.out qe);replace Y:=hid (box_at (w2:=w5) Y.out qe);replace HB:Hid (Bt g w w5):=hid qh;replace HR:=hid R5;clear b5 R5;clear r5 h5;obtain rfl:=V5;have l2:=Y.out.get (r:=2) rfl;have ff:=box_frz (i:=2) Y.out;obtain⟨W,hW⟩:∃W,w5.setCell ⟨w.heap.size+1,2,none⟩ (.string x5)=W:=⟨_,rfl⟩
   have y5:Box W (w.heap.size+1) 181 #[.int .i64 x2,.string x4,.string x5]:=by rw[← hW];exact box_set Y.out
   have z5:Box W w.heap.size 181 #[.int .i64 0,.string ⟨#[]⟩,.string ⟨#[]⟩]:=by rw[← hW];exact box_at Z.out qe
   have B5:Hid (Bt g w W):=hid zBT_3;have R5:Hid (Rd L g u5 W):=hid (by rw[← hW];exact(HR.out.low qe));replace Y:=hid y5;replace Z:=hid z5;clear y5 z5 HB HR;have p0:=Z.out.get (r:=0) rfl;have p1:=Z.out.get (r:=1) rfl;have p2:=Z.out.get (r:=2) rfl;have fz:∀i,World.frozen? _ ⟨_,i,none⟩=false:=fun i=>box_frz (i:=i) Z.out;have m0:=Y.out.get (r:=0) rfl;have m1:=Y.out.get (r:=1) rfl;have m2:=Y.out.get (r:=2) rfl;go_wp2_with fail;have HBB:=B5.out;refine bodyPost_ret (v:=.agg #[.int .i64 x2,.string x4,.string x5]) ?_ rfl (PO.ok (st_end HS) qe rfl (R5.out.low qe));exact zBT_2
 · have hb:((hd t).k==2)=false:=by simp[hk]
   replace HS:=st_br (st_bnk HS hk);clear hk;go_enter Tryz.func186,Tryz.ntmps186;go_wp2_with fail;refine(C1.out _ (HR.out.low qe)).mono ?_;rintro e w1 ⟨rfl,hb1⟩;have b1:Bt g _ w1:=Eqv.of hb1;have R1:Rd L g t w1:=HR.out.low (by have q1:Lw g _ w1:=Eqv.of hb1;exact qe);replace Z:=hid (box_at (w2:=w1) Z.out qe);replace Y:=hid (box_at (w2:=w1) Y.out qe);replace HB:Hid (Bt g w w1):=hid qh;replace HR:=hid R1;clear b1 R1;clear hb1;go_wp2_with fail;clear q;refine(name_any _ (HR.out.low qe)).mono ?_;rintro e w4 h4;rcases h4.cases with⟨x4,u4,v4,r4,rfl,b4,V4,R4⟩|⟨u4,r4,rfl,b4⟩
   rotate_left 1
   · exact zBT_0
   replace HS:=st_ok HS r4;replace Z:=hid (box_at (w2:=w4) Z.out qe);replace Y:=hid (box_at (w2:=w4) Y.out qe);replace HB:Hid (Bt g w w4):=hid qh;replace HR:=hid R4;clear b4 R4;clear r4 h4;obtain rfl:=V4;have l1:=Y.out.get (r:=1) rfl;have ff:=box_frz (i:=1) Y.out;go_wp2_with fail;replace Y:Hid (Box (w4.setCell ⟨w.heap.size+1,1,none⟩ (.string x4)) (w.heap.size+1) 181 #[.int .i64 1,.string x4,.string ⟨#[]⟩]):=hid (box_set Y.out);clear l1 ff;refine(name_any _ (HR.out.low qe)).mono ?_;rintro e w5 h5;rcases h5.cases with⟨x5,u5,v5,r5,rfl,b5,V5,R5⟩|⟨u5,r5,rfl,b5⟩
   rotate_left 1
   · exact zBT_0
   replace HS:=st_ok HS r5;replace Z:=hid (box_at (w2:=w5) Z.out qe);replace Y:=hid (box_at (w2:=w5) Y.out qe);replace HB:Hid (Bt g w w5):=hid qh;replace HR:=hid R5;clear b5 R5;clear r5 h5;obtain rfl:=V5;have l2:=Y.out.get (r:=2) rfl;have ff:=box_frz (i:=2) Y.out;obtain⟨W,hW⟩:∃W,w5.setCell ⟨w.heap.size+1,2,none⟩ (.string x5)=W:=⟨_,rfl⟩
   have y5:Box W (w.heap.size+1) 181 #[.int .i64 1,.string x4,.string x5]:=by rw[← hW];exact box_set Y.out
   have z5:Box W w.heap.size 181 #[.int .i64 0,.string ⟨#[]⟩,.string ⟨#[]⟩]:=by rw[← hW];exact box_at Z.out qe
   have B5:Hid (Bt g w W):=hid zBT_3;have R5:Hid (Rd L g u5 W):=hid (by rw[← hW];exact(HR.out.low qe));replace Y:=hid y5;replace Z:=hid z5;clear y5 z5 HB HR;have p0:=Z.out.get (r:=0) rfl;have p1:=Z.out.get (r:=1) rfl;have p2:=Z.out.get (r:=2) rfl;have fz:∀i,World.frozen? _ ⟨_,i,none⟩=false:=fun i=>box_frz (i:=i) Z.out;have m0:=Y.out.get (r:=0) rfl;have m1:=Y.out.get (r:=1) rfl;have m2:=Y.out.get (r:=2) rfl;go_wp2_with fail;have HBB:=B5.out;refine bodyPost_ret (v:=.agg #[.int .i64 1,.string x4,.string x5]) ?_ rfl (PO.ok (st_end HS) qe rfl (R5.out.low qe));exact zBT_2
set_option maxRecDepth 100000 in
theorem signedTerm_any (w:World) (hR:Rd L g t w):Calls Tryz.prog 187 #[.pointer (some ⟨g,0,none⟩)] w (PO L g (VC cTrm) (run sgt t) w):=by
 have HN:Hid (∀u x v,Gd u->run trm u=.ok x v->-1000000000000<=x.co/\x.co<=1000000000000):=hid fun u x v hg h=>by
  unfold trm at h
  cases h1:run (kd 2 (bd num fun n=>bd (exp zStar) fun _=>rt n) (rt 1)) u with
  | no q=>rw[bd_no h1] at h;cases h
  | ok c q=>
   rw[bd_ok h1] at h;have hc:-1000000000000<=c/\c<=1000000000000:=by
    by_cases hk:(hd u).k=2
    · rw[kd_yes hk] at h1;unfold num at h1
      cases h2:run (bd (tk 2) fun x=>rt x.2) u with
      | no q2=>rw[bd_no h2] at h1;cases h1
      | ok n q2=>
       rw[bd_ok h2] at h1;have hn:n=(hd u).n:=by rw[bd_ok (tk_yes hk)] at h2;cases h2;rfl
       cases h3:run (exp zStar) q2 with
       | no q3=>rw[bd_no h3] at h1;cases h1
       | ok _ q3=>rw[bd_ok h3] at h1;cases h1;have:=hg.wf.n;omega
    · rw[kd_no hk] at h1;cases h1;omega
   cases h2:run nam q with
   | no q2=>rw[bd_no h2] at h;cases h
   | ok s q2=>
    rw[bd_ok h2] at h
    cases h3:run nam q2 with
    | no q3=>rw[bd_no h3] at h;cases h
    | ok s2 q3=>rw[bd_ok h3] at h;cases h;exact hc
 obtain⟨r,hr⟩:∃r,run sgt t=r:=⟨_,rfl⟩
 rw[hr];have HS:=hid hr;have hg:=hR.blk;have HR:=hid hR;have HB:Hid (Bt g w w):=hid (Eqv.refl _ _);clear hR hr;have Z:=hid (Box.new (w:=w) (t:=181) (c:=#[.int .i64 0,.string ⟨#[]⟩,.string ⟨#[]⟩]));go_enter Tryz.func187,Tryz.ntmps187;go_wp2_with fail;refine(accept_any _ _ (HR.out.low qe) (by decide)).mono ?_;rintro e w1 ⟨b1,⟨i1,rfl,R1⟩|⟨i1,rfl,R1⟩⟩
 · replace HS:=st_yes HS i1;replace Z:=hid (box_at (w2:=w1) Z.out qe);replace HB:Hid (Bt g w w1):=hid qh;replace HR:=hid R1;clear b1 R1;clear i1;go_wp2_with fail;refine(term_any _ (HR.out.low qe)).mono ?_;rintro e w2 h2;rcases h2.cases with⟨x2,u2,v2,r2,rfl,b2,V2,R2⟩|⟨u2,r2,rfl,b2⟩
   rotate_left 1
   · have HBB:=HB.out;go_wp2_with fail;exact⟨rfl,PO.no (HS.out.symm.trans r2) qe⟩
   have HL2:=hid (HS.out.symm.trans r2);replace Z:=hid (box_at (w2:=w2) Z.out qe);replace HB:Hid (Bt g w w2):=hid qh;replace HR:=hid R2;clear b2 R2;clear r2 h2;obtain rfl:=V2;have p0:=Z.out.get (r:=0) rfl;have p1:=Z.out.get (r:=1) rfl;have p2:=Z.out.get (r:=2) rfl;have fz:∀i,World.frozen? _ ⟨_,i,none⟩=false:=fun i=>box_frz (i:=i) Z.out;dsimp only [cTrm];go_wp2_with fail;have HBB:=HB.out;refine bodyPost_ret (v:=.agg (cTrm x2)) ?_ rfl (PO.ok HL2.out qe rfl (HR.out.low qe));exact zBT_2
 · replace HS:=st_not HS i1;replace Z:=hid (box_at (w2:=w1) Z.out qe);replace HB:Hid (Bt g w w1):=hid qh;replace HR:=hid R1;clear b1 R1;clear i1;go_wp2_with fail;refine(expect_any _ _ (HR.out.low qe) (by decide)).mono ?_;rintro e w2 h2;rcases h2.cases with⟨x2,u2,v2,r2,rfl,b2,V2,R2⟩|⟨u2,r2,rfl,b2⟩
   rotate_left 1
   · exact zBT_0
   replace HS:=st_ok HS r2;replace Z:=hid (box_at (w2:=w2) Z.out qe);replace HB:Hid (Bt g w w2):=hid qh;replace HR:=hid R2;clear b2 R2;clear r2 h2;obtain rfl:=V2;go_wp2_with fail;refine(term_any _ (HR.out.low qe)).mono ?_;rintro e w3 h3;rcases h3.cases with⟨x3,u3,v3,r3,rfl,b3,V3,R3⟩|⟨u3,r3,rfl,b3⟩
   rotate_left 1
   · exact zBT_0
   have hn:=HN.out _ _ _ HR.out.gd r3;replace HS:=st_ok HS r3;replace Z:=hid (box_at (w2:=w3) Z.out qe);replace HB:Hid (Bt g w w3):=hid qh;replace HR:=hid R3;clear b3 R3;clear r3 h3;obtain rfl:=V3;have s3:=Z.out.lt;have Y:=hid (Box.new (w:=w3) (t:=181) (c:=#[.int .i64 x3.co,.string x3.wh,.string x3.nm]));have hw:wrap64 (-x3.co) = -x3.co:=by unfold wrap64;omega
   obtain⟨W,hW⟩:∃W,(w3.alloc (.cells #[.int .i64 x3.co,.string x3.wh,.string x3.nm] 181)).setCell ⟨w3.heap.size,0,none⟩ (.int .i64 (-x3.co))=W:=⟨_,rfl⟩
   have y5:Box W w3.heap.size 181 #[.int .i64 (-x3.co),.string x3.wh,.string x3.nm]:=by rw[← hW];exact box_set Y.out
   have z5:Box W w.heap.size 181 #[.int .i64 0,.string ⟨#[]⟩,.string ⟨#[]⟩]:=by rw[← hW];exact box_at Z.out qe
   have B5:Hid (Bt g w W):=hid zBT_3;have R5:Hid (Rd L g u3 W):=hid (by rw[← hW];exact(HR.out.low qe));have l0:=Y.out.get (r:=0) rfl;have ff:=box_frz (i:=0) Y.out;have q0:World.cell? W ⟨_,0,none⟩=some (.int .i64 (-x3.co)):=y5.get rfl;have q1:World.cell? W ⟨_,1,none⟩=some (.string x3.wh):=y5.get rfl;have q2:World.cell? W ⟨_,2,none⟩=some (.string x3.nm):=y5.get rfl;replace Z:=hid z5;clear y5 z5 HB HR Y hn;have p0:=Z.out.get (r:=0) rfl;have p1:=Z.out.get (r:=1) rfl;have p2:=Z.out.get (r:=2) rfl;have fz:∀i,World.frozen? _ ⟨_,i,none⟩=false:=fun i=>box_frz (i:=i) Z.out;dsimp only [cTrm];go_wp2_with fail;have HBB:=B5.out;refine bodyPost_ret (v:=.agg #[.int .i64 (-x3.co),.string x3.wh,.string x3.nm]) ?_ rfl (PO.ok (st_end HS) qe rfl (R5.out.low qe));exact zBT_2
end
end Go.Proofs.YtbgodajefaahdaaGreatDoor.Ps
namespace Go.Proofs.YtbgodajefaahdaaGreatDoor.Ps
open Go.RowKit
open Go.Proofs.YtbgodajefaahdaaGreatDoor.Ex (add_off)
open Go.Proofs.YtbgodajefaahdaaGreatDoor.Md (Rec Mono Rw At flatC flatC_get flatC_len flatC_one flatC_app Kind Sized kind_of)
set_option maxHeartbeats 2000000
structure OwnF {α:Type} (T:TypeId) (k:Nat) (R:Rec α) (G:Nat->Prop) (w:World) (v:Value) (l:List α):Prop where
 ex:∃C:List (Array Value),C.length=l.length/\(∀i,(h:i<l.length)->(h2:i<C.length)->R (fun b=>G b/\¬v.ownBlock=some b) w l[i] C[i])/\w.ownsRow 0 T k v l.length (flatC C)
 blk:∀b,v.ownBlock=some b->G b
theorem ownsRow_keep {w w2:World} {base k n:Nat} {T:TypeId} {v:Value} {xs:List Value} (h:w.ownsRow base T k v n xs) (hb:∀b,v.ownBlock=some b->w2.heap[b]?=w.heap[b]?):w2.ownsRow base T k v n xs:=by
 obtain⟨h1,h2|⟨g,cap,cur,rfl,h3,h4,h5⟩⟩:=h
 · exact⟨h1,.inl h2⟩
 · exact⟨h1,.inr ⟨g,cap,cur,rfl,h3,(hb g rfl).trans h4,h5⟩⟩
section
variable {α:Type} {LT T:TypeId} {k:Nat} {R:Rec α} {G H:Nat->Prop} {w w2:World} {v:Value} {l:List α} {x:α}
theorem OwnF.own {b:Nat} (h:OwnF T k R G w v l) (hv:v.ownBlock=some b):b<w.heap.size:=by
 obtain⟨C,h1,h2,h3⟩:=h.ex;exact(h3.lt b hv).2
theorem OwnF.map (hm:Mono R) (h:OwnF T k R G w v l) (hs:w.heap.size<=w2.heap.size) (hk:∀b,G b->b<w.heap.size->H b/\w2.heap[b]?=w.heap[b]?):OwnF T k R H w2 v l:=by
 have ho:=fun b (hv:v.ownBlock=some b)=>h.own hv;obtain⟨C,h1,h2,h3⟩:=h.ex;exact⟨⟨C,h1,fun i hi hi2=>hm hs (fun b hg hb=>⟨⟨(hk b hg.1 hb).1,hg.2⟩,(hk b hg.1 hb).2⟩) (h2 i hi hi2),ownsRow_keep h3 fun b hv=>(hk b (h.blk b hv) (ho b hv)).2⟩,fun b hv=>(hk b (h.blk b hv) (ho b hv)).1⟩
theorem OwnF.up {lo lo2:Nat} (hm:Mono R) (h:OwnF T k R (fun b=>lo<=b) w v l) (hb:Up lo w w2) (hl:lo2<=lo):OwnF T k R (fun b=>lo2<=b) w2 v l:=h.map hm hb.size fun b hg hlt=>⟨by omega,hb.block b hlt hg⟩
theorem OwnF.nil:OwnF T k R G w (.slice none 0 0) ([]:List α):=⟨⟨[],rfl,fun i h=>absurd h (Nat.not_lt_zero _),World.ownsRow_nil _ _ _ _⟩,fun b h=>by cases h⟩
theorem OwnF.one {c:Array Value} (hR:R (fun b=>G b/\b<w.heap.size) w x c) (hm:Mono R) (hs:Sized k R) (hg:G w.heap.size):OwnF T k R G (w.alloc (.cells c T)) (.slice (some ⟨w.heap.size,0,none⟩) 1 1) [x]:=by
 have hz:=hs hR;refine⟨⟨[c],rfl,fun i h h2=>?_,?_⟩,fun b hb=>?_⟩
 · have h0:i=0:=by simp at h;omega
   subst h0;exact hm (by simp) (fun b hb hlt=>⟨⟨hb.1,by
    intro e;have:w.heap.size=b:=by simpa [Value.ownBlock] using e
    omega⟩,by
    show(w.heap.push _)[b]?=_
    rw[Array.getElem?_push,if_neg (by omega)]⟩) hR
 · refine⟨by rw[flatC_len (k:=k) (by intro d hd;rw[List.mem_singleton] at hd;rw[hd];exact hz.1)];rfl,.inr ⟨w.heap.size,1,c,rfl,Nat.zero_le _,World.alloc_heap_new w _,Nat.le_refl _,by unfold maxLen;omega,by rw[hz.1];omega,?_⟩⟩;have e:c.toList.length=k:=by rw[Array.length_toList];exact hz.1
   show c.toList.take (1*k)=flatC [c]
   rw[List.take_of_length_le (by omega)];simp[flatC]
 · have:w.heap.size=b:=by simpa [Value.ownBlock] using hb
   rwa [← this]
theorem OwnF.app (I:Kind LT T k) (hm:Mono R) (hs:Sized k R) (ho:OwnF T k R G w v l) {B:Nat} {c:Array Value} (hc:At w B 0 c) (hR:R (fun b=>G b/\¬v.ownBlock=some b) w x c) (hn:l.length<=1000000) :
 ∃(v':Value) (w':World),(Builtin.append_ #[LT,LT] LT #[v,.slice (some ⟨B,0,none⟩) 1 1]).run Tryz.prog w=.ok v' w'/\OwnF T k R (fun b=>G b∨w.heap.size<=b) w' v' (l++[x])/\w.grownBy w' v.ownBlock:=by
 have hown:=fun b (hv:v.ownBlock=some b)=>ho.own hv;have hblk:=ho.blk;obtain⟨C,a1,a2,a3⟩:=ho.ex;have hz0:∀d∈C,d.size=k:=fun d hd=>by
  obtain⟨i,hi,rfl⟩:=List.getElem_of_mem hd;exact(hs (a2 i (by omega) hi)).1
 have hz:=hs hR;obtain⟨i0,z,hi0,hi1,hi2,hi3,hi4⟩:=I.info;have hmx:(l.length+1)*i0.bytes<=140737488355328:=by
  have h1:(l.length+1)*i0.bytes<=1000001*1000:=Nat.mul_le_mul (by omega) hi4;omega
 have hf:flatC [c]=c.toList:=by simp[flatC]
 obtain⟨v',w',e1,e2,e3,-,e5⟩:=run_append_own_at (P:=Tryz.prog) w 0 LT LT T i0 z k i0.bytes I.slice hi0 hi1 hi2 rfl hi3 I.pos v l.length _ a3 ⟨B,0,none⟩ 1 1 (flatC [c]) (by rw[hf,Array.length_toList,hz.1];omega) (fun j u hu=>by
  rw[hf,Array.getElem?_toList] at hu;have:=hc j u hu;rw[Nat.zero_add] at this;rw[add_off,Nat.zero_add];exact this) (flatC_one fun d hd=>by rw[List.mem_singleton] at hd;rw[hd];exact hz.2) (by unfold maxLen;omega) hmx (Nat.zero_le _)
 have hne:∀b,b<w.heap.size->¬v.ownBlock=some b->¬v'.ownBlock=some b:=fun b hb h1 h2=>by
  rcases e5 with e5|e5
  · rw[e5] at h2;exact h1 h2
  · rw[e5] at h2;injection h2 with h2;omega
 have keep:∀{y:α} {d:Array Value},R (fun b=>G b/\¬v.ownBlock=some b) w y d->R (fun b=>(G b∨w.heap.size<=b)/\¬v'.ownBlock=some b) w' y d:=fun {y d} hr=>hm e3.size (fun b hb hlt=>⟨⟨.inl hb.1,hne b hlt hb.2⟩,e3.block b hlt (fun he=>hb.2 he.symm)⟩) hr;refine⟨v',w',e1,⟨⟨C++[c],by simp[a1],fun i hi hi2=>?_,?_⟩,fun b hb=>?_⟩,e3⟩
 · rw[List.getElem_append,List.getElem_append];by_cases h0:i<l.length
   · rw[dif_pos h0,dif_pos (by omega)];exact keep (a2 i h0 (by omega))
   · rw[dif_neg h0,dif_neg (by omega)];have e:i=l.length:=by simp at hi;omega
     subst e;simp only[a1,Nat.sub_self,List.getElem_cons_zero];exact keep hR
 · rw[flatC_app,List.length_append];exact e2
 · rcases e5 with e5|e5
   · rw[e5] at hb;exact .inl (hblk b hb)
   · rw[e5] at hb;injection hb with hb;exact .inr (by omega)
theorem OwnF.rw (hm:Mono R) (hs:Sized k R) (h:OwnF T k R G w v l) (hn:l.length<=1000000):∃p c,v=.slice p l.length c/\Rw k R G w l p l.length:=by
 have hblk:=h.blk;obtain⟨C,h1,h2,h3⟩:=h.ex;rcases h3.2 with⟨rfl,h0⟩|⟨g,cap,cur,rfl,hb,hg,-⟩
 · exact⟨none,0,by rw[h0],rfl,by omega,.inl h0⟩
 · have hgl:g<w.heap.size:=(Array.getElem?_eq_some_iff.1 hg).1;have hL:∀c∈C,c.size=k:=fun c hc=>by
    obtain⟨i,hi,rfl⟩:=List.getElem_of_mem hc;exact(hs (h2 i (by omega) hi)).1
   refine⟨some ⟨g,0,none⟩,cap,rfl,rfl,by omega,.inr ⟨g,0,rfl,hblk g rfl,hgl,hid fun i hi=>?_⟩⟩;have hi2:i<C.length:=by omega
   have hR:=h2 i hi hi2;refine⟨C[i],(hs hR).1,fun r u hu=>?_,hm (Nat.le_refl _) (fun b hb _=>⟨hb.1,rfl⟩) hR⟩;have hr:r<k:=by have:=(Array.getElem?_eq_some_iff.1 hu).1;rwa [(hs hR).1] at this
   have hlt:i*k+r<l.length*k:=by
    have:=Nat.mul_le_mul_right k (show i+1<=l.length by omega);rw[Nat.add_mul] at this;omega
   rw[Nat.zero_add,h3.cellAt (i*k+r) hlt,flatC_get hL hi2 hr];exact hu
end
def VL {α:Type} (k:Nat) (R:Rec α) (lo:Nat) (w:World) (l:List α) (v:Value):Prop:=∃p m c,v=.slice p m c/\Rw k R (fun b=>lo<=b) w l p m
def VR {α:Type} (R:Rec α) (lo:Nat) (w:World) (x:α) (v:Value):Prop:=∃c,v=.agg c/\R (fun b=>lo<=b) w x c
theorem Eqv.grown {S:Nat->Prop} {a w w2:World} {row:Option Nat} (h:Eqv S a w) (hg:w.grownBy w2 row) (hr:∀b,row=some b->a.heap.size<=b∨¬S b):Eqv S a w2:=
 ⟨hg.os.trans h.os, hg.tape.trans h.tape, hg.output.trans h.output, Nat.le_trans h.size hg.size, fun k hk hs => (hg.block k (Nat.lt_of_lt_of_le hk h.size) (fun e => by
   rcases hr k e.symm with g|g
   · omega
   · exact g hs)).trans (h.block k hk hs)⟩
def RPr:Rec (Int×Int):=fun _ _ x c=>c=cPr x
theorem RPr.map:Mono RPr:=by intro G H w w2 _ _ x c h;exact h
theorem sPr:Sized 2 RPr:=by intro G w x c h;subst h;exact⟨rfl,by simp[cPr,Value.oneCell']⟩
theorem kPr:Kind 247 249 2:=kind_of Tryz.underlying247 (z:=.agg #[.int .i64 0,.int .i64 0]) (b:=16) (by kernel_rfl) (by decide) (by decide) (by decide)
end Go.Proofs.YtbgodajefaahdaaGreatDoor.Ps
namespace Go.Proofs.YtbgodajefaahdaaGreatDoor.Ps
open Go.RowKit
open Go.Proofs.YtbgodajefaahdaaGreatDoor.Lx (Tk)
open Go.Proofs.YtbgodajefaahdaaGreatDoor.Md (Box)
set_option maxHeartbeats 4000000
section
variable {L:Lk} {g:Nat} {t:List Tk}
structure PrAt (L:Lk) (g:Nat) (r:R (List (Int×Int))) (w:World) (k:Nat) (v:Value) (wr:World):Prop where
 ex:∃l u,run (prL k l) u=r/\u.length<k/\l.length+u.length<=30000/\OwnF 249 2 RPr (fun b=>w.heap.size<=b) wr v l/\Rd L g u wr
 bt:Bt g w wr
set_option maxRecDepth 100000 in
theorem pairs_any (w:World) (hR:Rd L g t w):Calls Tryz.prog 168 #[.pointer (some ⟨g,0,none⟩)] w (PO L g (VL 2 RPr) (run prs t) w):=by
 have hd0:Hid (∀x u,run pr t=.ok x u->u.length+3<=t.length):=hid (fun x u h=>(dn_pr.out hR.gd h).2);have ht:=hR.small;obtain⟨r,hr⟩:∃r,run prs t=r:=⟨_,rfl⟩
 rw[hr];have HS:=hid hr;have hg:=hR.blk;have HR:=hid hR;have HB:Hid (Bt g w w):=hid (Eqv.refl _ _);clear hR hr;go_enter Tryz.func168,Tryz.ntmps168;go_wp2_with fail;refine(pair_any _ (HR.out.low qe)).mono ?_;rintro e w1 h1;rcases h1.cases with⟨x1,u1,v1,r1,rfl,b1,V1,R1⟩|⟨u1,r1,rfl,b1⟩
 rotate_left 1
 · have HBB:=HB.out;go_wp2_with fail;exact⟨rfl,PO.no (st_no HS (by assumption)) qe⟩
 have hl1:=hd0.out _ _ r1;replace HS:=st_ok HS r1;replace HB:Hid (Bt g w w1):=hid qh;replace HR:=hid R1;clear b1 R1;clear r1 h1 hd0;obtain rfl:=V1;have o1:OwnF 249 2 RPr (fun b=>w.heap.size<=b) (w1.alloc (.cells (cPr x1) 249)) (.slice (some ⟨w1.heap.size,0,none⟩) 1 1) [x1]:=OwnF.one rfl RPr.map sPr HB.out.size;have HO:=hid o1;have HT:=hid hl1;unfold cPr at o1;unfold cPr;clear o1 hl1;go_wp2_with fail;go_loopg [3] FU (PrAt L g r w)
 case atStart=>
  have h1:=HT.out;exact⟨⟨[x1],u1,HS.out,by unfold FU;omega,by simp;omega,HO.out,(HR.out.low qe)⟩,by have HBB:=HB.out;exact qe⟩
 case round=>
  obtain⟨⟨l,u,hs,hk,hl,ho,hR⟩,hb⟩:=hrel;clear HS HB HR HO HT;obtain⟨k,rfl⟩:∃k,gk=k+1:=⟨gk-1,by omega⟩
  rw[prL] at hs;have C1:=hid (fun W (hW:Rd L g u W)=>token_any W hW);have q:=fld_k (hd u).k (hd u).n (hd u).l (hd u).t;unfold tv at C1;have HL:=hid hl;have HK:=hid hk;have HO:=hid ho;have HR:=hid hR;have HB:=hid hb;have HS:=hid hs;by_cases h2:(hd u).k=2
  · have hb2:((hd u).k==2)=true:=by simp[h2]
    replace HS:=st_kd HS h2;have hd0:Hid (∀x v,run pr u=.ok x v->v.length+3<=u.length):=hid (fun x v h=>(dn_pr.out hR.gd h).2);clear h2 hl hk ho hR hb hs;go_wp2_with fail;refine(C1.out _ HR.out).mono ?_;rintro e w2 ⟨rfl,hb1⟩;replace HR:Hid (Rd L g u w2):=hid (HR.out.low (Eqv.of hb1));have o2:OwnF 249 2 RPr (fun b=>w.heap.size<=b) w2 u3 l:=HO.out.up RPr.map (Eqv.of hb1) (Nat.le_refl _);replace HO:=hid o2;replace HB:Hid (Bt g w w2):=hid (HB.out.below hb1);clear hb1 o2;go_wp2_with fail;clear q;refine(pair_any _ (HR.out.low qe)).mono ?_;rintro e w3 h3;rcases h3.cases with⟨x3,u3',v3,r3,rfl,b3,V3,R3⟩|⟨u3',r3,rfl,b3⟩
    rotate_left 1
    · have HBB:=HB.out;go_wp2_with fail;exact⟨rfl,PO.no (st_no HS (by assumption)) qe⟩
    have hl1:=hd0.out _ _ r3;replace HS:=st_ok HS r3;have o3:OwnF 249 2 RPr (fun b=>w.heap.size<=b) w3 u3 l:=HO.out.up RPr.map (b3.mono fun k _ hk=>by have:w.heap.size<=k:=hk;omega) (Nat.le_refl _);have HT:=hid hl1;replace HO:=hid o3;replace HB:Hid (Bt g w w3):=hid qh;replace HR:=hid R3;clear b3 R3;clear r3 h3 hd0 hl1 o3;obtain rfl:=V3;have o4:OwnF 249 2 RPr (fun b=>w.heap.size<=b) (w3.alloc (.cells (cPr x3) 249)) u3 l:=HO.out.up RPr.map qe (Nat.le_refl _);have c4:Box (w3.alloc (.cells (cPr x3) 249)) w3.heap.size 249 (cPr x3):=Box.new;obtain⟨v5,w5,hrun,o5,hg5⟩:=o4.app kPr RPr.map sPr c4.cell (x:=x3) rfl (by have:=HL.out;omega);have s3:=HB.out.size;have B5:Hid (Bt g w w5):=hid (Eqv.grown qh hg5 fun b hb=>.inl (o4.blk b hb));have R5:Hid (Rd L g u3' w5):=hid (HR.out.low (Eqv.grown qe hg5 fun b hb=>.inr (by have:=o4.blk b hb;show ¬b<=g;omega)));have O5:Hid (OwnF 249 2 RPr (fun b=>w.heap.size<=b) w5 v5 (l++[x3])):=hid (o5.map RPr.map (Nat.le_refl _) fun b hb _=>⟨by
     rcases hb with hb|hb
     · exact hb
     · have e:(w3.alloc (.cells (cPr x3) 249)).heap.size=w3.heap.size+1:=by simp
       omega,rfl⟩)
    unfold cPr at hrun;clear o4 c4 o5 hg5 HB HR HO;unfold cPr;go_wp2_with (at_builtin;refine Lib.wpList_append_run _ rfl _ _ _ _ rfl _ _ rfl rfl _ _ hrun ?_)
    go_roundg k
    case measure=>omega
    case rel=>
     have h1:=HT.out;have h2:=HK.out;have h3:=HL.out;exact⟨⟨_,u3',HS.out,by omega,by simp;omega,O5.out,R5.out⟩,B5.out⟩
  · have hb2:((hd u).k==2)=false:=by simp[h2]
    replace HS:=st_nk HS h2;clear h2 hl hk ho hR hb hs;go_wp2_with fail;refine(C1.out _ HR.out).mono ?_;rintro e w2 ⟨rfl,hb1⟩;replace HR:Hid (Rd L g u w2):=hid (HR.out.low (Eqv.of hb1));have o2:OwnF 249 2 RPr (fun b=>w.heap.size<=b) w2 u3 l:=HO.out.up RPr.map (Eqv.of hb1) (Nat.le_refl _);obtain⟨p,c,rfl,hrw⟩:=o2.rw RPr.map sPr (by have:=HL.out;omega);have HW:=hid hrw;replace HB:Hid (Bt g w w2):=hid (HB.out.below hb1);clear hb1 o2 hrw HO;go_wp2_with fail;go_ret;exact PO.ok (st_end HS) HB.out ⟨p,_,c,rfl,HW.out⟩ HR.out
end
end Go.Proofs.YtbgodajefaahdaaGreatDoor.Ps
namespace Go.Proofs.YtbgodajefaahdaaGreatDoor.Ps
open Go.Proofs.YtbgodajefaahdaaGreatDoor.Ps.P (len)
open Go.RowKit
open Go.Proofs.YtbgodajefaahdaaGreatDoor.Lx (Tk bs)
open Go.Proofs.YtbgodajefaahdaaGreatDoor.Ex (Ex Gives Kin kin_iff cell4)
open Go.Proofs.YtbgodajefaahdaaGreatDoor.Md (Rec Mono Rw At Box Kind Sized kind_of)
set_option maxHeartbeats 1000000
def cEx (x:Ex) (p:Option Addr) (m c:Nat):Array Value:=#[.int .i64 x.o,.string x.s,.int .i64 x.n,.slice p m c]
def REx:Rec Ex:=fun G w x c=>∃p m cc,c=cEx x p m cc/\Kin G w x p m
theorem REx.map:Mono REx:=by
 intro G H w w2 hs hk x c ⟨p,m,cc,h1,h2⟩;exact⟨p,m,cc,h1,Kin.map hs hk x h2⟩
theorem sEx:Sized 4 REx:=by
 intro G w x c ⟨p,m,cc,h1,h2⟩;subst h1;exact⟨rfl,by simp[cEx,Value.oneCell']⟩
theorem kEx:Kind 39 41 4:=kind_of Tryz.underlying39 (z:=.agg #[.int .i64 0,.string ⟨#[]⟩,.int .i64 0,.slice none 0 0]) (b:=56) (by kernel_rfl) (by decide) (by decide) (by decide)
theorem at_cell4 {w:World} {b o:Nat} {x:Ex} {p:Option Addr} {m c:Nat}:At w b o (cEx x p m c)↔cell4 w b o x p m c:=by
 constructor
 · intro h;exact⟨by have:=h 0 _ rfl;rwa [Nat.add_zero] at this,h 1 _ rfl,h 2 _ rfl,h 3 _ rfl⟩
 · rintro⟨h0,h1,h2,h3⟩ r v hv;have hr:r<4:=(Array.getElem?_eq_some_iff.1 hv).1
   match r,hr,hv with
   | 0,_,hv=>cases hv;rw[Nat.add_zero];exact h0
   | 1,_,hv=>cases hv;exact h1
   | 2,_,hv=>cases hv;exact h2
   | 3,_,hv=>cases hv;exact h3
theorem kin_rw {G:Nat->Prop} {w:World} {o:Int} {s:ByteArray} {n:Int} {l:List Ex} {p:Option Addr} {m:Nat}:Kin G w (.mk o s n l) p m↔Rw 4 REx G w l p m:=by
 rw[kin_iff];constructor
 · rintro⟨h1,h2,h3|⟨b,o',rfl,hg,hb,hc⟩⟩
   · exact⟨h1,h2,.inl h3⟩
   · refine⟨h1,h2,.inr ⟨b,o',rfl,hg,hb,hid fun i hi=>?_⟩⟩;obtain⟨q,j,c,h5,h6⟩:=hc.out i hi;exact⟨cEx l[i] q j c,rfl,at_cell4.2 h5,q,j,c,rfl,h6⟩
 · rintro⟨h1,h2,h3|⟨b,o',rfl,hg,hb,hc⟩⟩
   · exact⟨h1,h2,.inl h3⟩
   · refine⟨h1,h2,.inr ⟨b,o',rfl,hg,hb,hid fun i hi=>?_⟩⟩;obtain⟨c,h4,h5,q,j,cc,rfl,h6⟩:=hc.out i hi;exact⟨q,j,cc,at_cell4.1 h5,h6⟩
def VX (lo:Nat) (w:World) (x:Ex) (v:Value):Prop:=∃p m c,v=.agg (cEx x p m c)/\Kin (fun b=>lo<=b) w x p m
set_option maxRecDepth 100000 in
theorem node_any (o:Int) (p:Option Addr) (m c:Nat) (w:World):Calls Tryz.prog 142 #[.int .i64 o,.slice p m c] w (Gives (.agg #[.int .i64 o,.string ⟨#[]⟩,.int .i64 0,.slice p m c]) w):=by
 go_enter Tryz.func142,Tryz.ntmps142;go_wp2_with fail;refine bodyPost_ret (v:=.agg #[.int .i64 o,.string ⟨#[]⟩,.int .i64 0,.slice p m c]) ?_ rfl ⟨rfl,bl⟩;exact results_cell_row rfl _ _ w.heap.size 41 _ (0,0) _ rfl Box.new Tryz.underlying41 rfl (by kernel_rfl)
def ROp:Rec (ByteArray×Int):=fun _ _ x c=>c=#[.string x.1,.int .i64 x.2]
theorem ROp.map:Mono ROp:=by intro G H w w2 _ _ x c h;exact h
def fnd:List (ByteArray×Int)->List Tk->Option Int
 | [],_=>none
 | o::r,t=>if is o.1 t=true then some o.2 else fnd r t
theorem opr_some {α:Type} {A:Int->P α} {B:P α} {t:List Tk} {o:Int}:∀{os:List (ByteArray×Int)},fnd os t=some o->run (opr A B os) t=run (A o) t.tail
 | [],h=>by cases h
 | q::r,h=>by
  unfold fnd at h;unfold opr
  cases hi:is q.1 t with
  | true=>rw[hi,if_pos rfl] at h;cases h;rw[acc_yes hi]
  | false=>rw[hi,if_neg (by decide)] at h;rw[acc_no hi];exact opr_some h
theorem opr_none {α:Type} {A:Int->P α} {B:P α} {t:List Tk}:∀{os:List (ByteArray×Int)},fnd os t=none->run (opr A B os) t=run B t
 | [],h=>rfl
 | q::r,h=>by
  unfold fnd at h;unfold opr
  cases hi:is q.1 t with
  | true=>rw[hi,if_pos rfl] at h;cases h
  | false=>rw[hi,if_neg (by decide)] at h;rw[acc_no hi];exact opr_none h
theorem drop_get {α:Type} {l:List α} {k:Nat} {x:α} (h:l[k]?=some x):l.drop k=x::l.drop (k+1):=by
 obtain⟨hk,e⟩:=List.getElem?_eq_some_iff.1 h;rw[List.drop_eq_getElem_cons hk,e]
theorem fnd_skip {t:List Tk} {os:List (ByteArray×Int)} {k:Nat} {q:ByteArray×Int} (hk:os[k]?=some q) (h:is q.1 t=false):fnd (os.drop k) t=fnd (os.drop (k+1)) t:=by
 rw[drop_get hk,fnd,h,if_neg (by decide)]
theorem fnd_here {t:List Tk} {os:List (ByteArray×Int)} {k:Nat} {q:ByteArray×Int} (hk:os[k]?=some q) (h:is q.1 t=true):fnd (os.drop k) t=some q.2:=by
 rw[drop_get hk,fnd,h,if_pos rfl]
def OO (L:Lk) (g:Nat) (os:List (ByteArray×Int)) (t:List Tk) (w:World) (e:Ending) (w':World):Prop:=
 Bt g w w'/\((∃o,fnd os t=some o/\e=.returned (.tuple #[.int .i64 o,.bool true])/\Rd L g t.tail w')∨(fnd os t=none/\e=.returned (.tuple #[.int .i64 0,.bool false])/\Rd L g t w'))
structure OpAt (L:Lk) (g:Nat) (os:List (ByteArray×Int)) (t:List Tk) (w:World) (n:Nat) (v:Value) (wr:World):Prop where
 ex:∃k,k+n=os.length+1/\0<n/\v=.int .i64 ((k:Nat):Int)/\fnd os t=fnd (os.drop k) t
 rd:Rd L g t wr
 bt:Bt g w wr
section
variable {L:Lk} {g:Nat} {t:List Tk}
set_option maxRecDepth 100000 in
theorem acceptOne_any (os:List (ByteArray×Int)) (p:Option Addr) (m c:Nat) (w:World) (hR:Rd L g t w) (ho:Rw 2 ROp (fun b=>¬b=g) w os p m) (hs:∀q∈os,¬bs q.1=[]):Calls Tryz.prog 141 #[.pointer (some ⟨g,0,none⟩),.slice p m c] w (OO L g os t w):=by
 obtain⟨hl,hm⟩:=ho.len;have HL:=hid hl;have HM:=hid hm;have HO:=hid ho;have HR:=hid hR;have HSS:=hid hs;clear hl hm ho hR hs;go_enter Tryz.func141,Tryz.ntmps141;go_wp2_with fail;go_loopg [10] (os.length+1) (OpAt L g os t w)
 case atStart=>exact⟨⟨0,by omega,by omega,rfl,rfl⟩,HR.out,by exact qe⟩
 case round=>
  obtain⟨⟨k,hk,h0,rfl,hf⟩,hR,hb⟩:=hrel;have h30:=hR.few;by_cases hkl:k<os.length
  · obtain⟨b,o,hpe,hbg,hlt,hcc⟩:=HO.out.rows (by rw[← HL.out];omega);obtain⟨cc,hc1,hc2,hc3⟩:=hcc.out k hkl;obtain⟨⟨s,op⟩,hso⟩:∃q,os[k]=q:=⟨_,rfl⟩
    rw[hso] at hc3;have hc3:cc=#[.string s,.int .i64 op]:=hc3;subst hc3;subst hpe;have hne:=HSS.out os[k] (List.getElem_mem hkl);rw[hso] at hne;have hcw:At wr b (o+k*2) #[.string s,.int .i64 op]:=hc2.keep (hb.block b hlt hbg);have q0:wr.cell? ⟨b,o+k*2,none⟩=some (.string s):=by have:=hcw.get (r:=0) rfl;rwa [Nat.add_zero] at this
    have q1:wr.cell? ⟨b,o+k*2+1,none⟩=some (.int .i64 op):=hcw.get (r:=1) rfl;have k0:(0:Int)<=(k:Int):=by omega
    have k1:(k:Int)<(m:Int):=by have:=HL.out;omega
    have k2:decide ((k:Int)<(m:Int))=true:=decide_eq_true k1;have hw:IntKind.i64.wrap ((k:Int)+1)=((k+1:Nat):Int):=by rw[IntKind.wrap_i64];have:=HM.out;omega
    have HQ:Hid (os[k]?=some (s,op)):=hid (by rw[List.getElem?_eq_getElem hkl,hso]);have hkm:k<m:=by have:=HL.out;omega
    have HN:=hid hne;have HR2:=hid hR;have HB:=hid hb;have HF:=hid hf;have HK:=hid hk;clear hR hb hf hk hcw hc2 hcc hne hso hkl hc1 HO hc3;go_wp2_with fail;refine(accept_any s _ (HR2.out.low qe) HN.out).mono ?_;rintro e w1 ⟨b1,⟨i1,rfl,R1⟩|⟨i1,rfl,R1⟩⟩
    · have hr:fnd os t=some op:=HF.out.trans (fnd_here HQ.out i1);have HH:=hid hr;have B1:Hid (Bt g w w1):=hid (by have q:Bt g w wr:=HB.out;exact qe);have R2:=hid R1;have z1:(wr.alloc (.cells #[.string s,.int .i64 op] 184)).cell? ⟨wr.heap.size,1,none⟩=some (.int .i64 op):=by rw[World.cell?_alloc_mark];rfl
      have z2:Box w1 wr.heap.size 184 #[.string s,.int .i64 op]:=box_bt (g:=g) Box.new b1 (by have:=HR2.out.blk;omega);have z3:=z2.get (r:=1) rfl;clear hr b1 i1 R1 z1 z2 q0 q1 HF;go_wp2_with fail;refine bodyPost_ret (v:=.tuple #[.int .i64 op,.bool true]) (by simp[results,Tryz.results141,go_sem]) rfl ⟨B1.out,.inl ⟨op,HH.out,rfl,R2.out⟩⟩
    · have hr:fnd os t=fnd (os.drop (k+1)) t:=HF.out.trans (fnd_skip HQ.out i1);have HH:=hid hr;have B1:=hid b1;have R2:=hid R1;clear hr b1 i1 R1 q0 q1 HF;have B2:Hid (Bt g w w1):=hid (by have q:Bt g w wr:=HB.out;have q2:=B1.out;exact qe);go_wp2_with fail;go_roundg (gk-1)
      case measure=>omega
      case rel=>
       have h1:=HK.out;exact⟨⟨k+1,by omega,by have:=HL.out;omega,rfl,HH.out⟩,R2.out,B2.out⟩
  · have e:os.drop k=[]:=List.drop_of_length_le (by omega);have hn:fnd os t=none:=by rw[hf,e];rfl
    have k2:decide ((k:Int)<(m:Int))=false:=decide_eq_false (by have:=HL.out;omega);have k3:¬((k:Int)<(m:Int)):=by have:=HL.out;omega
    have HH:=hid hn;have B2:=hid hb;have R2:=hid hR;clear hf hb hR hn e hk hkl;go_wp2_with fail;exact bodyPost_ret (v:=.tuple #[.int .i64 0,.bool false]) (by simp[results,Tryz.results141,go_sem]) rfl ⟨B2.out,.inr ⟨HH.out,rfl,R2.out⟩⟩
end
end Go.Proofs.YtbgodajefaahdaaGreatDoor.Ps
namespace Go.Proofs.YtbgodajefaahdaaGreatDoor.Ps
open Go.Proofs.YtbgodajefaahdaaGreatDoor.Ps.P (bd)
open Go.RowKit
open Go.Proofs.YtbgodajefaahdaaGreatDoor.Lx (Tk bs)
open Go.Proofs.YtbgodajefaahdaaGreatDoor.Ex (Ex Kin)
open Go.Proofs.YtbgodajefaahdaaGreatDoor.Md (Rw Box)
set_option maxHeartbeats 1000000
theorem kin2 {G:Nat->Prop} {w:World} {x y:Ex} {p q:Option Addr} {m n c d:Nat} (o:Int) (hx:Kin G w x p m) (hy:Kin G w y q n) (hg:G w.heap.size):Kin G (w.alloc (.cells #[.int .i64 x.o,.string x.s,.int .i64 x.n,.slice p m c,.int .i64 y.o,.string y.s,.int .i64 y.n,.slice q n d] 41)) (nd2 o x y) (some ⟨w.heap.size,0,none⟩) 2:=by
 have hk:∀(z:Ex) (r:Option Addr) (j:Nat),Kin G w z r j->Kin G (w.alloc (.cells #[.int .i64 x.o,.string x.s,.int .i64 x.n,.slice p m c,.int .i64 y.o,.string y.s,.int .i64 y.n,.slice q n d] 41)) z r j:=fun z r j h=>Ex.Kin.map (by simp) (fun b hb hlt=>⟨hb,by show(w.heap.push _)[b]?=_;rw[Array.getElem?_push,if_neg (by omega)]⟩) z h;have hb:Box (w.alloc (.cells #[.int .i64 x.o,.string x.s,.int .i64 x.n,.slice p m c,.int .i64 y.o,.string y.s,.int .i64 y.n,.slice q n d] 41)) w.heap.size 41 _:=Box.new;refine kin_rw.2 ⟨rfl,by omega,.inr ⟨w.heap.size,0,rfl,hg,by simp,hid fun i hi=>?_⟩⟩
 match i,hi with
 | 0,_=>exact⟨cEx x p m c,rfl,at_cell4.2 ⟨hb.get rfl,hb.get rfl,hb.get rfl,hb.get rfl⟩,p,m,c,rfl,hk x p m hx⟩
 | 1,_=>exact⟨cEx y q n d,rfl,at_cell4.2 ⟨hb.get rfl,hb.get rfl,hb.get rfl,hb.get rfl⟩,q,n,d,rfl,hk y q n hy⟩
theorem kin1 {G:Nat->Prop} {w:World} {x:Ex} {p:Option Addr} {m c:Nat} (o:Int) (hx:Kin G w x p m) (hg:G w.heap.size):Kin G (w.alloc (.cells #[.int .i64 x.o,.string x.s,.int .i64 x.n,.slice p m c] 41)) (nd1 o x) (some ⟨w.heap.size,0,none⟩) 1:=by
 have hk:Kin G (w.alloc (.cells #[.int .i64 x.o,.string x.s,.int .i64 x.n,.slice p m c] 41)) x p m:=Ex.Kin.map (by simp) (fun b hb hlt=>⟨hb,by show(w.heap.push _)[b]?=_;rw[Array.getElem?_push,if_neg (by omega)]⟩) x hx;have hb:Box (w.alloc (.cells #[.int .i64 x.o,.string x.s,.int .i64 x.n,.slice p m c] 41)) w.heap.size 41 _:=Box.new;refine kin_rw.2 ⟨rfl,by omega,.inr ⟨w.heap.size,0,rfl,hg,by simp,hid fun i hi=>?_⟩⟩
 match i,hi with
 | 0,_=>exact⟨cEx x p m c,rfl,at_cell4.2 ⟨hb.get rfl,hb.get rfl,hb.get rfl,hb.get rfl⟩,p,m,c,rfl,hk⟩
structure ChAt (L:Lk) (g:Nat) (r:R Ex) (m:P Ex) (os:List (ByteArray×Int)) (N:Nat) (w:World) (B:Nat) (k:Nat) (wr:World):Prop where
 ex:∃e u p j c,run (chL m os k e) u=r/\u.length<k/\u.length<=N/\Box wr B 41 (cEx e p j c)/\Kin (fun b=>w.heap.size<b/\¬b=B) wr e p j/\Rd L g u wr
 bt:Bt g w wr
 res:∃z,z.size=4/\Box wr w.heap.size 41 z
theorem four {z:Array Value} (h:z.size=4):∃a b c d,z=#[a,b,c,d]:=by
 match z,h with
 | ⟨[a,b,c,d]⟩,_=>exact⟨a,b,c,d,rfl⟩
theorem chL_none {m:P Ex} {os:List (ByteArray×Int)} {k:Nat} {e:Ex} {u:List Tk} {r:R Ex} (H:Hid (run (chL m os (k+1) e) u=r)) (h:fnd os u=none):r=.ok e u:=by
 have:=H.out;rw[chL,opr_none h] at this;exact this.symm
theorem chL_some {m:P Ex} {os:List (ByteArray×Int)} {k:Nat} {e:Ex} {u:List Tk} {r:R Ex} {o:Int} (H:Hid (run (chL m os (k+1) e) u=r)) (h:fnd os u=some o):Hid (run (bd m fun y=>chL m os k (nd2 o e y)) u.tail=r):=by
 have:=H.out;rw[chL,opr_some h] at this;exact hid this
section
variable {L:Lk} {g:Nat} {t:List Tk}
theorem zBX_0 {p:Prop} (h:p:=by have hgB:¬w1.heap.size=g:=(by omega);exact qe):p:=h
set_option maxHeartbeats 3000000 in
set_option maxRecDepth 100000 in
theorem chain_any (f:FuncId) (m:P Ex) (os:List (ByteArray×Int)) (p:Option Addr) (n c:Nat) (w:World) (hR:Rd L g t w)
 (hC:∀W u,Rd L g u W->u.length<=t.length->Calls Tryz.prog f #[.pointer (some ⟨g,0,none⟩)] W (PO L g VX (run m u) W))
 (hf:∀(a:Array Value) (W:World),(callFunc f a).run Tryz.prog W=.ok (.enter f a) W) (ho:Rw 2 ROp (fun b=>¬b=g) w os p n) (hs:∀q∈os,¬bs q.1=[]) (hm:Dn 1 m):Calls Tryz.prog 93 #[.pointer (some ⟨g,0,none⟩),.func (.func f) #[] #[],.slice p n c] w (PO L g VX (run (chn m os) t) w):=by
 have HC:=hid hC;have HO:Hid (∀W,Bt g w W->Rw 2 ROp (fun b=>¬b=g) W os p n):=hid fun W hW=>ho.map ROp.map hW.size fun b hb hlt=>⟨hb,hW.block b hlt hb⟩
 have HSS:=hid hs;have HM:=hid hm;have hd0:Hid (∀x u,run m t=.ok x u->u.length+1<=t.length):=hid (fun x u h=>(hm.out hR.gd h).2);have hfu:=hid hR.fu;clear hC ho hs hm;obtain⟨r,hr⟩:∃r,run (chn m os) t=r:=⟨_,rfl⟩
 rw[hr];have HS:=hid hr;have hg:=hR.blk;have HR:=hid hR;have HB:Hid (Bt g w w):=hid (Eqv.refl _ _);clear hR hr;have Z:=hid (Box.new (w:=w) (t:=41) (c:=#[.int .i64 0,.string ⟨#[]⟩,.int .i64 0,.slice none 0 0]));go_enter Tryz.func93,Tryz.ntmps93;go_wp2_with fail;refine(HC.out _ _ (HR.out.low qe) (Nat.le_refl _)).mono ?_;rintro e w1 h1;rcases h1.cases with⟨x1,u1,v1,r1,rfl,b1,V1,R1⟩|⟨u1,r1,rfl,b1⟩
 rotate_left 1
 · have HBB:=HB.out;go_wp2_with fail;exact⟨rfl,PO.no (st_no HS (by assumption)) qe⟩
 have HT:=hid (hd0.out _ _ r1);replace HS:=st_ok HS r1;replace Z:=hid (box_at (w2:=w1) Z.out qe);replace HB:Hid (Bt g w w1):=hid qh;replace HR:=hid R1;clear b1 R1;clear r1 h1 hd0;obtain⟨p1,m1,c1,rfl,k1⟩:=V1;have e0:(w.alloc (.cells #[.int .i64 0,.string ⟨#[]⟩,.int .i64 0,.slice none 0 0] 41)).heap.size=w.heap.size+1:=by simp
 rw[e0] at k1;have K1:=hid k1;have hz:=Z.out.lt;clear k1 e0;unfold cEx;go_wp2_with fail;go_loopg [] FU (ChAt L g r m os t.length w w1.heap.size)
 case atStart=>
  have h1:=HT.out;have h2:=hfu.out;refine⟨⟨x1,u1,p1,m1,c1,HS.out,by omega,by omega,Box.new,?_,(HR.out.low qe)⟩,by have HBB:=HB.out;exact qe,_,rfl,box_at Z.out qe⟩;exact Ex.Kin.map (by simp) (fun b hb hlt=>⟨⟨by have:w.heap.size+1<=b:=hb;omega,by omega⟩,by show(w1.heap.push _)[b]?=_;rw[Array.getElem?_push,if_neg (by omega)]⟩) x1 K1.out
 case round=>
  obtain⟨⟨e,u,p2,m2,c2,hr,hk,hl,hbx,hkin,hR⟩,hb,zz,hz4,hzb⟩:=hrel;clear HS HB HR HT K1 Z hfu;obtain⟨k,rfl⟩:∃k,gk=k+1:=⟨gk-1,by omega⟩
  have HO2:=hid (HO.out wr hb);have HS:=hid hr;have HR:=hid hR;have HB:=hid hb;have HK:=hid hk;have HL:=hid hl;have Y:=hid hbx;have HKN:=hid hkin;have Z:=hid hzb;have HZ4:=hid hz4;clear hr hR hb hk hl hbx hkin hzb hz4;go_wp2_with fail;refine(acceptOne_any os p n c _ HR.out HO2.out HSS.out).mono ?_;rintro e' w2 ⟨b2,⟨o,hfd,rfl,R2⟩|⟨hfd,rfl,R2⟩⟩
  · replace HS:=chL_some HS hfd;have hne:¬(hd u).k=0:=by
     intro e;have:=HR.out.gd.last e;have h2:=R2.gd.ne;rw[List.length_tail] at h2;omega
    have HT:=hid (HR.out.gd.tail hne).2;have hd2:Hid (∀y v,run m u.tail=.ok y v->v.length+1<=u.tail.length):=hid (fun y v h=>(HM.out.out R2.gd h).2);replace Y:=hid (box_at (w2:=w2) Y.out zBX_0);replace Z:=hid (box_at (w2:=w2) Z.out qe);have b2':=b2;replace HB:Hid (Bt g w w2):=hid qh;replace HR:=hid R2;replace HKN:Hid (Kin (fun b=>w.heap.size<b/\¬b=w1.heap.size) w2 e p2 m2):=hid (Ex.Kin.map b2'.size (fun b hb hlt=>⟨hb,b2'.block b hlt (by omega)⟩) e HKN.out);clear b2 b2' R2 hfd hne;have l0:World.cell? _ ⟨_,0,none⟩=some (.int .i64 e.o):=Y.out.get rfl;have l1:World.cell? _ ⟨_,1,none⟩=some (.string e.s):=Y.out.get rfl;have l2:World.cell? _ ⟨_,2,none⟩=some (.int .i64 e.n):=Y.out.get rfl;have l3:World.cell? _ ⟨_,3,none⟩=some (.slice p2 m2 c2):=Y.out.get rfl;have y0:∃z0 z1 z2 z3,zz=#[z0,z1,z2,z3]:=four HZ4.out;have fz:∀i,World.frozen? _ ⟨_,i,none⟩=false:=fun i=>box_frz (i:=i) Y.out;clear y0;go_wp2_with fail;go_region_with (first|(go_at_call 142;refine(node_any _ _ _ _ _).mono ?_;rintro e' w4 ⟨rfl,hb4⟩;have q4:Bt g _ w4:=Eqv.of hb4;have s4:Box w4 w1.heap.size 41 (cEx e p2 m2 c2):=box_at s3 zBX_0;have y0:World.cell? w4 ⟨w1.heap.size,0,none⟩=some (.int .i64 e.o):=s4.get rfl;have y1:World.cell? w4 ⟨w1.heap.size,1,none⟩=some (.string e.s):=s4.get rfl;have y2:World.cell? w4 ⟨w1.heap.size,2,none⟩=some (.int .i64 e.n):=s4.get rfl;have y3:World.cell? w4 ⟨w1.heap.size,3,none⟩=some (.slice p2 m2 c2):=s4.get rfl;have fz4:∀i,World.frozen? w4 ⟨w1.heap.size,i,none⟩=false:=fun i=>box_frz (i:=i) s4)|(refine(HC.out _ _ (HR.out.low qe) (by have h1:=HT.out;have h2:=HL.out;omega)).mono ?_;rintro e' w3 h3;rcases h3.cases with⟨x3,u3,v3,r3,rfl,b3,V3,R3⟩|⟨u3,r3,rfl,b3⟩;rotate_left 1;(have HBB:=HB.out;exact⟨rfl,PO.no (st_no HS (by assumption)) qe⟩);obtain⟨p3,m3,c3,rfl,k3⟩:=V3;dsimp only [cEx];have s3:=box_at (w2:=w3) Y.out zBX_0;have m0:World.cell? w3 ⟨w1.heap.size,0,none⟩=some (.int .i64 e.o):=s3.get rfl;have m1':World.cell? w3 ⟨w1.heap.size,1,none⟩=some (.string e.s):=s3.get rfl;have m2':World.cell? w3 ⟨w1.heap.size,2,none⟩=some (.int .i64 e.n):=s3.get rfl;have m3':World.cell? w3 ⟨w1.heap.size,3,none⟩=some (.slice p2 m2 c2):=s3.get rfl))
    all_goals
     have z2:=Y.out.lt;have HD:=hid (hd2.out _ _ r3);have HS2:=st_ok HS r3;have gB:¬w1.heap.size=g:=(by omega)
     have Z3:Box w3 w.heap.size 41 zz:=box_at (w2:=w3) Z.out qe;have Z4:Box w4 w.heap.size 41 zz:=box_at Z3 qe;have B4:Bt g w w4:=by have HBB:=HB.out;exact qe
     have R4:Rd L g u3 w4:=R3.low (by have q5:Lw g _ w4:=Eqv.of hb4;exact qe);have KE:Kin (fun b=>w.heap.size<b/\¬b=w1.heap.size) w3 e p2 m2:=Ex.Kin.map (w:=w2) b3.size (fun b hb hlt=>⟨hb,b3.block b hlt (by omega)⟩) e HKN.out;have KX:Kin (fun b=>w.heap.size<b/\¬b=w1.heap.size) w3 x3 p3 m3:=k3.mono fun b hb hlt=>by
      have hb2:w2.heap.size<=b:=hb;have hb3:=hz;exact⟨by omega,by omega⟩
     have s3z:=b3.size;have s3z2:w2.heap.size<=w3.heap.size:=s3z;have KN:=kin2 (c:=c2) (d:=c3) o KE KX ⟨by omega,by omega⟩;have K4:Kin (fun b=>w.heap.size<b/\¬b=w1.heap.size) w4 (nd2 o e x3) (some ⟨w3.heap.size,0,none⟩) 2:=Ex.Kin.map hb4.size (fun b hb hlt=>⟨hb,hb4.block b hlt⟩) _ KN;have D4:=hid s4;have HQ:=hid (And.intro Z4 (And.intro B4 (And.intro R4 K4)));clear Z3 Z4 B4 R4 KE KX KN K4 s3z r3 k3 h3 R3 b3 hb4 q4 s4 s3 m0 m1' m2' m3' l0 l1 l2 l3 y0 y1 y2 y3 fz4 fz;go_wp2_with fail;go_roundg k
     case measure=>exact Nat.lt_succ_self k
     case rel=>
      obtain⟨Z4,B4,R4,K4⟩:=HQ.out;have h1:=HD.out;have h2:=HT.out;have h3:=HK.out;have h4:=HL.out;have qS:Eqv (fun b=>w.heap.size<b/\¬b=w1.heap.size) w4 ((((w4.setCell ⟨w1.heap.size,0,none⟩ (.int .i64 o)).setCell ⟨w1.heap.size,1,none⟩ (.string ⟨#[]⟩)).setCell ⟨w1.heap.size,2,none⟩ (.int .i64 0)).setCell ⟨w1.heap.size,3,none⟩ (.slice (some ⟨w3.heap.size,0,none⟩) 2 2)):=by
       refine Eqv.set (Eqv.set (Eqv.set (Eqv.set (Eqv.refl _ _) ?_) ?_) ?_) ?_ <;> exact .inr fun h=>h.2 rfl
      exact⟨⟨nd2 o e x3,u3,_,2,2,HS2.out,by omega,by omega,box_set4 D4.out rfl,Ex.Kin.map qS.size (fun b hb hlt=>⟨hb,qS.block b hlt hb⟩) _ K4,R4.low qe⟩,by exact qe,zz,HZ4.out,box_at Z4 qe⟩
  · have hr:=chL_none HS hfd;replace Y:=hid (box_at (w2:=w2) Y.out zBX_0);replace Z:=hid (box_at (w2:=w2) Z.out qe);have b2':=b2;replace HB:Hid (Bt g w w2):=hid qh;replace HR:=hid R2;replace HKN:Hid (Kin (fun b=>w.heap.size<b/\¬b=w1.heap.size) w2 e p2 m2):=hid (Ex.Kin.map b2'.size (fun b hb hlt=>⟨hb,b2'.block b hlt (by omega)⟩) e HKN.out);replace HS:=hid hr;clear b2 b2' R2 hfd hr;obtain⟨z0,z1,z2,z3,rfl⟩:=four HZ4.out;have l0:World.cell? _ ⟨_,0,none⟩=some (.int .i64 e.o):=Y.out.get rfl;have l1:World.cell? _ ⟨_,1,none⟩=some (.string e.s):=Y.out.get rfl;have l2:World.cell? _ ⟨_,2,none⟩=some (.int .i64 e.n):=Y.out.get rfl;have l3:World.cell? _ ⟨_,3,none⟩=some (.slice p2 m2 c2):=Y.out.get rfl;have y0:World.cell? _ ⟨_,0,none⟩=some z0:=Z.out.get rfl;have y1:World.cell? _ ⟨_,1,none⟩=some z1:=Z.out.get rfl;have y2:World.cell? _ ⟨_,2,none⟩=some z2:=Z.out.get rfl;have y3:World.cell? _ ⟨_,3,none⟩=some z3:=Z.out.get rfl;have fz:∀i,World.frozen? _ ⟨_,i,none⟩=false:=fun i=>box_frz (i:=i) Z.out;go_wp2_with fail;have HBB:=HB.out;refine bodyPost_ret (v:=.agg (cEx e p2 m2 c2)) ?_ rfl (PO.ok HS.out qe ⟨p2,m2,c2,rfl,?_⟩ (HR.out.low qe))
    · exact results_cell_row rfl _ _ w.heap.size 41 _ (0,0) _ rfl (box_set4 Z.out rfl) Tryz.underlying41 rfl (by kernel_rfl)
    · refine Ex.Kin.map (G:=fun b=>w.heap.size<b/\¬b=w1.heap.size) (w:=w2) (by simp) (fun b hb hlt=>⟨by show w.heap.size<=b;omega,?_⟩) e HKN.out;have q:Eqv (fun k=>¬k=w.heap.size) w2 ((((w2.setCell ⟨w.heap.size,0,none⟩ (.int .i64 e.o)).setCell ⟨w.heap.size,1,none⟩ (.string e.s)).setCell ⟨w.heap.size,2,none⟩ (.int .i64 e.n)).setCell ⟨w.heap.size,3,none⟩ (.slice p2 m2 c2)):=by exact qe
      exact q.block b hlt (by omega)
end
end Go.Proofs.YtbgodajefaahdaaGreatDoor.Ps
namespace Go.Proofs.YtbgodajefaahdaaGreatDoor.Ps
open Go.Proofs.YtbgodajefaahdaaGreatDoor.Ps.P (exp)
open Go.RowKit
open Go.Proofs.YtbgodajefaahdaaGreatDoor.Lx (Tk)
open Go.Proofs.YtbgodajefaahdaaGreatDoor.Ex (Ex Kin)
open Go.Proofs.YtbgodajefaahdaaGreatDoor.Md (Box)
set_option maxHeartbeats 1000000
theorem kin_fin {a:Nat} {w w2:World} {x:Ex} {p:Option Addr} {m:Nat} (h:Kin (fun b=>a<b) w x p m) (hb:Eqv (fun b=>a<b) w w2):Kin (fun b=>a<=b) w2 x p m:=by
 have hk:∀b,(fun b=>a<b) b->b<w.heap.size->(fun b=>a<=b) b/\w2.heap[b]?=w.heap[b]?:=fun b hg hlt=>⟨Nat.le_of_lt hg,hb.block b hlt hg⟩
 exact Ex.Kin.map hb.size hk x h
theorem kin_go {a:Nat} {w w2:World} {x:Ex} {p:Option Addr} {m:Nat} (h:Kin (fun b=>a<b) w x p m) (hb:Eqv (fun b=>a<b) w w2):Kin (fun b=>a<b) w2 x p m:=by
 have hk:∀b,(fun b=>a<b) b->b<w.heap.size->(fun b=>a<b) b/\w2.heap[b]?=w.heap[b]?:=fun b hg hlt=>⟨hg,hb.block b hlt hg⟩
 exact Ex.Kin.map hb.size hk x h
structure XC (L:Lk) (g:Nat) (n:Nat):Prop where
 xe:∀W u,Rd L g u W->u.length<n->Calls Tryz.prog 53 #[.pointer (some ⟨g,0,none⟩)] W (PO L g VX (run (fE n) u) W)
 xn:∀W u,Rd L g u W->u.length<n->Calls Tryz.prog 143 #[.pointer (some ⟨g,0,none⟩)] W (PO L g VX (run (fN n) u) W)
 xf:∀W u,Rd L g u W->u.length<n->Calls Tryz.prog 208 #[.pointer (some ⟨g,0,none⟩)] W (PO L g VX (run (fF n) u) W)
section
variable {L:Lk} {g:Nat} {t:List Tk} {n:Nat}
theorem zBZ_0 {p:Prop} (h:p:=by
 have HBB:=HB.out;go_wp2_with fail;exact⟨rfl,PO.no (st_no HS (by assumption)) qe⟩
 ):p:=h
theorem zBZ_1 {p:Prop} (h:p:=by
 exact results_cell_row rfl _ _ w.heap.size 41 _ (0,0) _ rfl (box_set4 Z.out rfl) Tryz.underlying41 rfl (by kernel_rfl)
 ):p:=h
theorem zBZ_2 {p:Prop} (h:p:=by have hb':_<=b:=hb;first|(simp at hb';omega)|omega):p:=h
set_option maxRecDepth 100000 in
theorem ofOne_any (hX:XC L g n) (o:Int) (w:World) (hR:Rd L g t w) (hn:t.length<=n):Calls Tryz.prog 229 #[.pointer (some ⟨g,0,none⟩),.int .i64 o] w (PO L g VX (run (one (fE n) o) t) w):=by
 have HX:=hid hX.xe;have HD:Hid (∀u,run (exp zLpar) t=.ok () u->u.length<n):=hid fun u h=>by have:=((Dn.exp (by decide):Dn 1 (exp zLpar)).out hR.gd h).2;omega
 clear hX hn;obtain⟨r,hr⟩:∃r,run (one (fE n) o) t=r:=⟨_,rfl⟩
 rw[hr];have HS:=hid hr;have hg:=hR.blk;have HR:=hid hR;have HB:Hid (Bt g w w):=hid (Eqv.refl _ _);clear hR hr;have Z:=hid (Box.new (w:=w) (t:=41) (c:=#[.int .i64 0,.string ⟨#[]⟩,.int .i64 0,.slice none 0 0]));go_enter Tryz.func229,Tryz.ntmps229;go_wp2_with fail;refine(expect_any _ _ (HR.out.low qe) (by decide)).mono ?_;rintro e w1 h1;rcases h1.cases with⟨x1,u1,v1,r1,rfl,b1,V1,R1⟩|⟨u1,r1,rfl,b1⟩
 rotate_left 1
 · exact zBZ_0
 have hu:=hid (HD.out _ r1);replace HS:=st_ok HS r1;replace Z:=hid (box_at (w2:=w1) Z.out qe);replace HB:Hid (Bt g w w1):=hid qh;replace HR:=hid R1;clear b1 R1;clear r1 h1 HD;obtain rfl:=V1;have hz1:=Z.out.lt;go_wp2_with fail;refine(HX.out _ _ (HR.out.low qe) hu.out).mono ?_;rintro e w2 h2;rcases h2.cases with⟨x2,u2,v2,r2,rfl,b2,V2,R2⟩|⟨u2,r2,rfl,b2⟩
 rotate_left 1
 · exact zBZ_0
 replace HS:=st_ok HS r2;replace Z:=hid (box_at (w2:=w2) Z.out qe);replace HB:Hid (Bt g w w2):=hid qh;replace HR:=hid R2;clear b2 R2;clear r2 h2;obtain⟨p2,m2,c2,rfl,k2⟩:=V2;have KX2:Hid (Kin (fun b=>w.heap.size<b) w2 x2 p2 m2):=hid (k2.mono fun b hb hlt=>zBZ_2);clear k2;dsimp only [cEx];have Y:=hid (Box.new (w:=w2) (t:=41) (c:=cEx x2 p2 m2 c2));dsimp only [cEx] at Y;have hz2:=Z.out.lt;go_wp2_with fail;refine(expect_any _ _ (HR.out.low qe) (by decide)).mono ?_;rintro e w3 h3;rcases h3.cases with⟨x3,u3,v3,r3,rfl,b3,V3,R3⟩|⟨u3,r3,rfl,b3⟩
 rotate_left 1
 · exact zBZ_0
 replace HS:=st_ok HS r3;replace Z:=hid (box_at (w2:=w3) Z.out qe);replace Y:=hid (box_at (w2:=w3) Y.out qe);replace KX2:=hid (kin_go (w2:=w3) KX2.out qe);replace HB:Hid (Bt g w w3):=hid qh;replace HR:=hid R3;clear b3 R3;clear r3 h3;obtain rfl:=V3;have l0:World.cell? _ ⟨_,0,none⟩=some (.int .i64 x2.o):=Y.out.get rfl;have l1:World.cell? _ ⟨_,1,none⟩=some (.string x2.s):=Y.out.get rfl;have l2:World.cell? _ ⟨_,2,none⟩=some (.int .i64 x2.n):=Y.out.get rfl;have l3:World.cell? _ ⟨_,3,none⟩=some (.slice p2 m2 c2):=Y.out.get rfl;go_wp2_with fail;refine(node_any _ _ _ _ _).mono ?_;rintro e w4 ⟨rfl,hb4⟩;have b4:Bt g _ w4:=Eqv.of hb4;have R4:Rd L g u3 w4:=HR.out.low (by have q:Lw g _ w4:=Eqv.of hb4;exact qe);have hz3:=Z.out.lt;have KN:Hid (Kin (fun b=>w.heap.size<b) w4 (nd1 o x2) (some ⟨w3.heap.size,0,none⟩) 1):=hid (Ex.Kin.map hb4.size (fun b hb hlt=>⟨hb,hb4.block b hlt⟩) _ (kin1 (c:=c2) o KX2.out hz3));replace Z:=hid (box_at (w2:=w4) Z.out qe);replace HB:Hid (Bt g w w4):=hid qh;replace HR:=hid R4;clear b4 R4;clear hb4 l0 l1 l2 l3;have y0:World.cell? _ ⟨_,0,none⟩=some (.int .i64 0):=Z.out.get rfl;have y1:World.cell? _ ⟨_,1,none⟩=some (.string ⟨#[]⟩):=Z.out.get rfl;have y2:World.cell? _ ⟨_,2,none⟩=some (.int .i64 0):=Z.out.get rfl;have y3:World.cell? _ ⟨_,3,none⟩=some (.slice none 0 0):=Z.out.get rfl;have fz:∀i,World.frozen? _ ⟨_,i,none⟩=false:=fun i=>box_frz (i:=i) Z.out;go_wp2_with fail;have HBB:=HB.out;refine bodyPost_ret (v:=.agg (cEx (nd1 o x2) (some ⟨w3.heap.size,0,none⟩) 1 1)) ?_ rfl (PO.ok (st_end HS) qe ⟨(some ⟨w3.heap.size,0,none⟩),1,1,rfl,?_⟩ (HR.out.low qe))
 · exact zBZ_1
 · have KK:=KN.out;exact kin_fin KK qe
set_option maxRecDepth 100000 in
theorem ofTwo_any (hX:XC L g n) (o:Int) (w:World) (hR:Rd L g t w) (hn:t.length<=n):Calls Tryz.prog 230 #[.pointer (some ⟨g,0,none⟩),.int .i64 o] w (PO L g VX (run (two (fE n) o) t) w):=by
 have HX:=hid hX.xe;have HD:Hid (∀u,run (exp zLpar) t=.ok () u->u.length<n):=hid fun u h=>by have:=((Dn.exp (by decide):Dn 1 (exp zLpar)).out hR.gd h).2;omega
 have HD2:Hid (∀u v x,Gd u->u.length<n->run (fE n) u=.ok x v->v.length<n):=hid fun u v x hg hl h=>by have:=((dn_fE n).out hg h).2;omega
 have HD3:Hid (∀u v,Gd u->u.length<n->run (exp zComma) u=.ok () v->v.length<n):=hid fun u v hg hl h=>by have:=((Dn.exp (by decide):Dn 1 (exp zComma)).out hg h).2;omega
 clear hX hn;obtain⟨r,hr⟩:∃r,run (two (fE n) o) t=r:=⟨_,rfl⟩
 rw[hr];have HS:=hid hr;have hg:=hR.blk;have HR:=hid hR;have HB:Hid (Bt g w w):=hid (Eqv.refl _ _);clear hR hr;have Z:=hid (Box.new (w:=w) (t:=41) (c:=#[.int .i64 0,.string ⟨#[]⟩,.int .i64 0,.slice none 0 0]));go_enter Tryz.func230,Tryz.ntmps230;go_wp2_with fail;refine(expect_any _ _ (HR.out.low qe) (by decide)).mono ?_;rintro e w1 h1;rcases h1.cases with⟨x1,u1,v1,r1,rfl,b1,V1,R1⟩|⟨u1,r1,rfl,b1⟩
 rotate_left 1
 · exact zBZ_0
 have hu:=hid (HD.out _ r1);replace HS:=st_ok HS r1;replace Z:=hid (box_at (w2:=w1) Z.out qe);replace HB:Hid (Bt g w w1):=hid qh;replace HR:=hid R1;clear b1 R1;clear r1 h1 HD;obtain rfl:=V1;have hz1:=Z.out.lt;go_wp2_with fail;refine(HX.out _ _ (HR.out.low qe) hu.out).mono ?_;rintro e w2 h2;rcases h2.cases with⟨x2,u2,v2,r2,rfl,b2,V2,R2⟩|⟨u2,r2,rfl,b2⟩
 rotate_left 1
 · exact zBZ_0
 replace hu:=hid (HD2.out _ _ _ HR.out.gd hu.out r2);replace HS:=st_ok HS r2;replace Z:=hid (box_at (w2:=w2) Z.out qe);replace HB:Hid (Bt g w w2):=hid qh;replace HR:=hid R2;clear b2 R2;clear r2 h2 HD2;obtain⟨p2,m2,c2,rfl,k2⟩:=V2;have KX2:Hid (Kin (fun b=>w.heap.size<b) w2 x2 p2 m2):=hid (k2.mono fun b hb hlt=>zBZ_2);clear k2;dsimp only [cEx];have Y:=hid (Box.new (w:=w2) (t:=41) (c:=cEx x2 p2 m2 c2));dsimp only [cEx] at Y;have hz2:=Z.out.lt;go_wp2_with fail;refine(expect_any _ _ (HR.out.low qe) (by decide)).mono ?_;rintro e w3 h3;rcases h3.cases with⟨x3,u3,v3,r3,rfl,b3,V3,R3⟩|⟨u3,r3,rfl,b3⟩
 rotate_left 1
 · exact zBZ_0
 replace hu:=hid (HD3.out _ _ HR.out.gd hu.out r3);replace HS:=st_ok HS r3;replace Z:=hid (box_at (w2:=w3) Z.out qe);replace Y:=hid (box_at (w2:=w3) Y.out qe);replace KX2:=hid (kin_go (w2:=w3) KX2.out qe);replace HB:Hid (Bt g w w3):=hid qh;replace HR:=hid R3;clear b3 R3;clear r3 h3 HD3;obtain rfl:=V3;have hz3:=Z.out.lt;have hy3:=Y.out.lt;go_wp2_with fail;refine(HX.out _ _ (HR.out.low qe) hu.out).mono ?_;rintro e w4 h4;rcases h4.cases with⟨x4,u4,v4,r4,rfl,b4,V4,R4⟩|⟨u4,r4,rfl,b4⟩
 rotate_left 1
 · exact zBZ_0
 replace HS:=st_ok HS r4;replace Z:=hid (box_at (w2:=w4) Z.out qe);replace Y:=hid (box_at (w2:=w4) Y.out qe);replace KX2:=hid (kin_go (w2:=w4) KX2.out qe);replace HB:Hid (Bt g w w4):=hid qh;replace HR:=hid R4;clear b4 R4;clear r4 h4;obtain⟨p4,m4,c4,rfl,k4⟩:=V4;have KX4:Hid (Kin (fun b=>w.heap.size<b) w4 x4 p4 m4):=hid (k4.mono fun b hb hlt=>zBZ_2);clear k4;dsimp only [cEx];have X:=hid (Box.new (w:=w4) (t:=41) (c:=cEx x4 p4 m4 c4));dsimp only [cEx] at X;have hz4:=Z.out.lt;have hy4:=Y.out.lt;go_wp2_with fail;refine(expect_any _ _ (HR.out.low qe) (by decide)).mono ?_;rintro e w5 h5;rcases h5.cases with⟨x5,u5,v5,r5,rfl,b5,V5,R5⟩|⟨u5,r5,rfl,b5⟩
 rotate_left 1
 · exact zBZ_0
 replace HS:=st_ok HS r5;replace Z:=hid (box_at (w2:=w5) Z.out qe);replace Y:=hid (box_at (w2:=w5) Y.out qe);replace KX2:=hid (kin_go (w2:=w5) KX2.out qe);replace KX4:=hid (kin_go (w2:=w5) KX4.out qe);replace X:=hid (box_at (w2:=w5) X.out qe);replace HB:Hid (Bt g w w5):=hid qh;replace HR:=hid R5;clear b5 R5;clear r5 h5;obtain rfl:=V5;have l0:World.cell? _ ⟨_,0,none⟩=some (.int .i64 x2.o):=Y.out.get rfl;have l1:World.cell? _ ⟨_,1,none⟩=some (.string x2.s):=Y.out.get rfl;have l2:World.cell? _ ⟨_,2,none⟩=some (.int .i64 x2.n):=Y.out.get rfl;have l3:World.cell? _ ⟨_,3,none⟩=some (.slice p2 m2 c2):=Y.out.get rfl;have j0:World.cell? _ ⟨_,0,none⟩=some (.int .i64 x4.o):=X.out.get rfl;have j1:World.cell? _ ⟨_,1,none⟩=some (.string x4.s):=X.out.get rfl;have j2:World.cell? _ ⟨_,2,none⟩=some (.int .i64 x4.n):=X.out.get rfl;have j3:World.cell? _ ⟨_,3,none⟩=some (.slice p4 m4 c4):=X.out.get rfl;go_wp2_with fail;refine(node_any _ _ _ _ _).mono ?_;rintro e w6 ⟨rfl,hb6⟩;have b6:Bt g _ w6:=Eqv.of hb6;have R6:Rd L g u5 w6:=HR.out.low (by have q:Lw g _ w6:=Eqv.of hb6;exact qe);have hz5:=Z.out.lt;have KN:Hid (Kin (fun b=>w.heap.size<b) w6 (nd2 o x2 x4) (some ⟨w5.heap.size,0,none⟩) 2):=hid (Ex.Kin.map hb6.size (fun b hb hlt=>⟨hb,hb6.block b hlt⟩) _ (kin2 (c:=c2) (d:=c4) o KX2.out KX4.out hz5));replace Z:=hid (box_at (w2:=w6) Z.out qe);replace HB:Hid (Bt g w w6):=hid qh;replace HR:=hid R6;clear b6 R6;clear hb6 l0 l1 l2 l3 j0 j1 j2 j3;have y0:World.cell? _ ⟨_,0,none⟩=some (.int .i64 0):=Z.out.get rfl;have y1:World.cell? _ ⟨_,1,none⟩=some (.string ⟨#[]⟩):=Z.out.get rfl;have y2:World.cell? _ ⟨_,2,none⟩=some (.int .i64 0):=Z.out.get rfl;have y3:World.cell? _ ⟨_,3,none⟩=some (.slice none 0 0):=Z.out.get rfl;have fz:∀i,World.frozen? _ ⟨_,i,none⟩=false:=fun i=>box_frz (i:=i) Z.out;go_wp2_with fail;have HBB:=HB.out;refine bodyPost_ret (v:=.agg (cEx (nd2 o x2 x4) (some ⟨w5.heap.size,0,none⟩) 2 2)) ?_ rfl (PO.ok (st_end HS) qe ⟨(some ⟨w5.heap.size,0,none⟩),2,2,rfl,?_⟩ (HR.out.low qe))
 · exact zBZ_1
 · have KK:=KN.out;exact kin_fin KK qe
set_option maxRecDepth 100000 in
theorem ofName_any (o:Int) (w:World) (hR:Rd L g t w):Calls Tryz.prog 231 #[.pointer (some ⟨g,0,none⟩),.int .i64 o] w (PO L g VX (run (onm o) t) w):=by
 obtain⟨r,hr⟩:∃r,run (onm o) t=r:=⟨_,rfl⟩
 rw[hr];have HS:=hid hr;have hg:=hR.blk;have HR:=hid hR;have HB:Hid (Bt g w w):=hid (Eqv.refl _ _);clear hR hr;have Z:=hid (Box.new (w:=w) (t:=41) (c:=#[.int .i64 0,.string ⟨#[]⟩,.int .i64 0,.slice none 0 0]));go_enter Tryz.func231,Tryz.ntmps231;go_wp2_with fail;refine(expect_any _ _ (HR.out.low qe) (by decide)).mono ?_;rintro e w1 h1;rcases h1.cases with⟨x1,u1,v1,r1,rfl,b1,V1,R1⟩|⟨u1,r1,rfl,b1⟩
 rotate_left 1
 · exact zBZ_0
 replace HS:=st_ok HS r1;replace Z:=hid (box_at (w2:=w1) Z.out qe);replace HB:Hid (Bt g w w1):=hid qh;replace HR:=hid R1;clear b1 R1;clear r1 h1;obtain rfl:=V1;have hz1:=Z.out.lt;go_wp2_with fail;refine(name_any _ (HR.out.low qe)).mono ?_;rintro e w2 h2;rcases h2.cases with⟨x2,u2,v2,r2,rfl,b2,V2,R2⟩|⟨u2,r2,rfl,b2⟩
 rotate_left 1
 · exact zBZ_0
 replace HS:=st_ok HS r2;replace Z:=hid (box_at (w2:=w2) Z.out qe);replace HB:Hid (Bt g w w2):=hid qh;replace HR:=hid R2;clear b2 R2;clear r2 h2;obtain rfl:=V2;have hz2:=Z.out.lt;go_wp2_with fail;refine(expect_any _ _ (HR.out.low qe) (by decide)).mono ?_;rintro e w3 h3;rcases h3.cases with⟨x3,u3,v3,r3,rfl,b3,V3,R3⟩|⟨u3,r3,rfl,b3⟩
 rotate_left 1
 · exact zBZ_0
 replace HS:=st_ok HS r3;replace Z:=hid (box_at (w2:=w3) Z.out qe);replace HB:Hid (Bt g w w3):=hid qh;replace HR:=hid R3;clear b3 R3;clear r3 h3;obtain rfl:=V3;have hz3:=Z.out.lt;have y0:World.cell? _ ⟨_,0,none⟩=some (.int .i64 0):=Z.out.get rfl;have y1:World.cell? _ ⟨_,1,none⟩=some (.string ⟨#[]⟩):=Z.out.get rfl;have y2:World.cell? _ ⟨_,2,none⟩=some (.int .i64 0):=Z.out.get rfl;have y3:World.cell? _ ⟨_,3,none⟩=some (.slice none 0 0):=Z.out.get rfl;have fz:∀i,World.frozen? _ ⟨_,i,none⟩=false:=fun i=>box_frz (i:=i) Z.out;have KN:Hid (Kin (fun b=>w.heap.size<b) w3 (ndN o x2) none 0):=hid Kin.zero;go_wp2_with fail;have HBB:=HB.out;refine bodyPost_ret (v:=.agg (cEx (ndN o x2) (none) 0 0)) ?_ rfl (PO.ok (st_end HS) qe ⟨(none),0,0,rfl,?_⟩ (HR.out.low qe))
 · exact zBZ_1
 · have KK:=KN.out;exact kin_fin KK qe
end
end Go.Proofs.YtbgodajefaahdaaGreatDoor.Ps
