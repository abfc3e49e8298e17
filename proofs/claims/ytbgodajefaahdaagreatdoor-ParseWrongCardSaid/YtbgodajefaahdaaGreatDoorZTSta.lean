/-
  Parts of this proof: The contract of the reader's start declaration. The contract of the reader's conservation law.
-/
import Derived.Test.YtbgodajefaahdaaGreatDoorZTXC
import Derived.Deep.RegionLaw
set_option linter.unusedVariables false
open Go.Lib (hid)
namespace Go.Proofs.YtbgodajefaahdaaGreatDoor.Ps
open Go.RowKit
open Go.Proofs.YtbgodajefaahdaaGreatDoor.Lx (Tk)
open Go.Proofs.YtbgodajefaahdaaGreatDoor.Md (Rw Box cSta cSta_one bSta RSta)
set_option maxHeartbeats 1000000
theorem mv_gs {F:(Nat->Prop)->World->Prop} (hm:Mv F) {S:Nat->Prop} {w w2:World} (h:F S w) (hb:Eqv S w w2):F S w2:=hm hb.size (fun b hg hlt=>⟨hg,hb.block b hlt hg⟩) h
section
variable {L:Lk} {g:Nat} {t:List Tk}
theorem zEF_0 {p:Prop} (h:p:=by
 have HBB:=HB.out;go_wp2_with fail;exact⟨rfl,PO.no (st_no HS (by assumption)) qe⟩
 ):p:=h
theorem zEF_1 {p:Prop} (h:p:=by first|(left;simp;done)|(left;simp;omega)|(right;simp;done)|(right;simp;omega)):p:=h
set_option maxRecDepth 100000 in
theorem start_any (w:World) (hR:Rd L g t w):Calls Tryz.prog 156 #[.pointer (some ⟨g,0,none⟩)] w (PO L g (VR RSta) (run sta t) w):=by
 obtain⟨r,hr⟩:∃r,run sta t=r:=⟨_,rfl⟩
 rw[hr];have HS:=hid hr;have hg:=hR.blk;have HR:=hid hR;have HB:Hid (Bt g w w):=hid (Eqv.refl _ _);clear hR hr;have Z:=hid (Box.new (w:=w) (t:=122) (c:=#[.string ⟨#[]⟩,.slice none 0 0,.int .i64 0,.int .i64 0,.int .i64 0]));go_enter Tryz.func156,Tryz.ntmps156;go_wp2_with fail;refine(name_any _ (HR.out.low qe)).mono ?_;rintro e w1 h1;rcases h1.cases with⟨x1,u1,v1,r1,rfl,b1,V1,R1⟩|⟨u1,r1,rfl,b1⟩
 rotate_left 1
 · exact zEF_0
 replace HS:=st_ok HS r1;replace Z:=hid (box_at (w2:=w1) Z.out qe);replace HB:Hid (Bt g w w1):=hid qh;replace HR:=hid R1;clear b1 R1;clear r1 h1;obtain rfl:=V1;have hz1:=Z.out.lt;go_wp2_with fail;refine(listedI_any 185 arg dn_arg _ (HR.out.low qe) (fun _ _=>rfl) (fun W u hW _=>argument_any W hW)).mono ?_;rintro e w2 h2;rcases h2.cases with⟨x2,u2,v2,r2,rfl,b2,V2,R2⟩|⟨u2,r2,rfl,b2⟩
 rotate_left 1
 · exact zEF_0
 replace HS:=st_ok HS r2;replace Z:=hid (box_at (w2:=w2) Z.out qe);replace HB:Hid (Bt g w w2):=hid qh;replace HR:=hid R2;clear b2 R2;clear r2 h2;obtain⟨p2,m2,c2,rfl,k2⟩:=V2;have hz2:=Z.out.lt;have KA:Hid (Rw 1 RInt (fun b=>w.heap.size<b/\¬b=w2.heap.size) w2 x2 p2 m2):=hid (k2.mono RInt.map fun b hb hlt=>⟨by have hb':w1.heap.size<=b:=hb;omega,by omega⟩);clear k2;have Y:=hid (Box.new (w:=w2) (t:=122) (c:=#[.string x1,.slice p2 m2 c2,.int .i64 0,.int .i64 0,.int .i64 0]));go_wp2_with fail;refine(expect_any _ _ (HR.out.low qe) (by decide)).mono ?_;rintro e w3 h3;rcases h3.cases with⟨x3,u3,v3,r3,rfl,b3,V3,R3⟩|⟨u3,r3,rfl,b3⟩
 rotate_left 1
 · exact zEF_0
 replace HS:=st_ok HS r3;replace Z:=hid (box_at (w2:=w3) Z.out qe);replace Y:=hid (box_at (w2:=w3) Y.out qe);replace KA:=hid (mv_gs (mv_rw RInt.map) (w2:=w3) KA.out qe);replace HB:Hid (Bt g w w3):=hid qh;replace HR:=hid R3;clear b3 R3;clear r3 h3;obtain rfl:=V3;have hy3:=Y.out.lt;go_wp2_with fail;refine(number_any _ (HR.out.low qe)).mono ?_;rintro e w4 h4;rcases h4.cases with⟨x4,u4,v4,r4,rfl,b4,V4,R4⟩|⟨u4,r4,rfl,b4⟩
 rotate_left 1
 · exact zEF_0
 replace HS:=st_ok HS r4;replace Z:=hid (box_at (w2:=w4) Z.out qe);replace Y:=hid (box_at (w2:=w4) Y.out qe);replace KA:=hid (mv_gs (mv_rw RInt.map) (w2:=w4) KA.out qe);replace HB:Hid (Bt g w w4):=hid qh;replace HR:=hid R4;clear b4 R4;clear r4 h4;obtain⟨rfl,n0,n1⟩:=V4;have hy4:=Y.out.lt;have l2:World.cell? _ ⟨_,2,none⟩=some (.int .i64 0):=Y.out.get rfl;have fy:∀i,World.frozen? _ ⟨_,i,none⟩=false:=fun i=>box_frz (i:=i) Y.out;go_wp2_with fail;replace Y:=hid (box_set (i:=2) (v:=.int .i64 x4) Y.out);replace Z:=hid (box_at (w2:=World.setCell w4 ⟨w2.heap.size,2,none⟩ (.int .i64 x4)) Z.out qe);replace HR:=hid (HR.out.low (w2:=World.setCell w4 ⟨w2.heap.size,2,none⟩ (.int .i64 x4)) qe);replace HB:=hid (Eqv.set (p:=⟨w2.heap.size,2,none⟩) (v:=.int .i64 x4) HB.out zEF_1);replace KA:=hid (mv_gs (mv_rw RInt.map) (w2:=w4.setCell ⟨w2.heap.size,2,none⟩ (.int .i64 x4)) KA.out qe);clear l2 fy;refine(accept_any kEvery _ (HR.out.low qe) (by decide)).mono ?_;rintro e w5 ⟨b5,⟨i5,rfl,R5⟩|⟨i5,rfl,R5⟩⟩
 · replace HS:=st_bb (st_by HS i5);replace Z:=hid (box_at (w2:=w5) Z.out qe);replace Y:=hid (box_at (w2:=w5) Y.out qe);replace KA:=hid (mv_gs (mv_rw RInt.map) (w2:=w5) KA.out qe);replace HB:Hid (Bt g w w5):=hid qh;replace HR:=hid R5;clear b5 R5;clear i5;have hy5:=Y.out.lt;go_wp2_with fail;refine(number_any _ (HR.out.low qe)).mono ?_;rintro e w6 h6;rcases h6.cases with⟨x6,u6,v6,r6,rfl,b6,V6,R6⟩|⟨u6,r6,rfl,b6⟩
   rotate_left 1
   · exact zEF_0
   replace HS:=st_ok HS r6;replace Z:=hid (box_at (w2:=w6) Z.out qe);replace Y:=hid (box_at (w2:=w6) Y.out qe);replace KA:=hid (mv_gs (mv_rw RInt.map) (w2:=w6) KA.out qe);replace HB:Hid (Bt g w w6):=hid qh;replace HR:=hid R6;clear b6 R6;clear r6 h6;obtain⟨rfl,n2,n3⟩:=V6;have hy6:=Y.out.lt;replace HS:=st_bb HS;have l3:World.cell? _ ⟨_,3,none⟩=some (.int .i64 0):=Y.out.get rfl;have fy:∀i,World.frozen? _ ⟨_,i,none⟩=false:=fun i=>box_frz (i:=i) Y.out;go_wp2_with fail;replace Y:=hid (box_set (i:=3) (v:=.int .i64 x6) Y.out);replace Z:=hid (box_at (w2:=World.setCell w6 ⟨w2.heap.size,3,none⟩ (.int .i64 x6)) Z.out qe);replace HR:=hid (HR.out.low (w2:=World.setCell w6 ⟨w2.heap.size,3,none⟩ (.int .i64 x6)) qe);replace HB:=hid (Eqv.set (p:=⟨w2.heap.size,3,none⟩) (v:=.int .i64 x6) HB.out zEF_1);replace KA:=hid (mv_gs (mv_rw RInt.map) (w2:=w6.setCell ⟨w2.heap.size,3,none⟩ (.int .i64 x6)) KA.out qe);clear l3 fy;refine(expect_any _ _ (HR.out.low qe) (by decide)).mono ?_;rintro e w7 h7;rcases h7.cases with⟨x7,u7,v7,r7,rfl,b7,V7,R7⟩|⟨u7,r7,rfl,b7⟩
   rotate_left 1
   · exact zEF_0
   replace HS:=st_ok HS r7;replace Z:=hid (box_at (w2:=w7) Z.out qe);replace Y:=hid (box_at (w2:=w7) Y.out qe);replace KA:=hid (mv_gs (mv_rw RInt.map) (w2:=w7) KA.out qe);replace HB:Hid (Bt g w w7):=hid qh;replace HR:=hid R7;clear b7 R7;clear r7 h7;obtain rfl:=V7;replace HS:=st_bb HS;have hy7:=Y.out.lt;go_wp2_with fail;refine(number_any _ (HR.out.low qe)).mono ?_;rintro e w8 h8;rcases h8.cases with⟨x8,u8,v8,r8,rfl,b8,V8,R8⟩|⟨u8,r8,rfl,b8⟩
   rotate_left 1
   · exact zEF_0
   replace HS:=st_ok HS r8;replace Z:=hid (box_at (w2:=w8) Z.out qe);replace Y:=hid (box_at (w2:=w8) Y.out qe);replace KA:=hid (mv_gs (mv_rw RInt.map) (w2:=w8) KA.out qe);replace HB:Hid (Bt g w w8):=hid qh;replace HR:=hid R8;clear b8 R8;clear r8 h8;obtain⟨rfl,n4,n5⟩:=V8;have hy8:=Y.out.lt;replace HS:=st_br HS;have l4:World.cell? _ ⟨_,4,none⟩=some (.int .i64 0):=Y.out.get rfl;have fy:∀i,World.frozen? _ ⟨_,i,none⟩=false:=fun i=>box_frz (i:=i) Y.out;go_wp2_with fail;replace Y:=hid (box_set (i:=4) (v:=.int .i64 x8) Y.out);replace Z:=hid (box_at (w2:=World.setCell w8 ⟨w2.heap.size,4,none⟩ (.int .i64 x8)) Z.out qe);replace HR:=hid (HR.out.low (w2:=World.setCell w8 ⟨w2.heap.size,4,none⟩ (.int .i64 x8)) qe);replace HB:=hid (Eqv.set (p:=⟨w2.heap.size,4,none⟩) (v:=.int .i64 x8) HB.out zEF_1);replace KA:=hid (mv_gs (mv_rw RInt.map) (w2:=w8.setCell ⟨w2.heap.size,4,none⟩ (.int .i64 x8)) KA.out qe);clear l4 fy;refine(endLine_any _ (HR.out.low qe)).mono ?_;rintro e w9 h9;rcases h9.cases with⟨x9,u9,v9,r9,rfl,b9,V9,R9⟩|⟨u9,r9,rfl,b9⟩
   rotate_left 1
   · exact zEF_0
   replace HS:=st_ok HS r9;replace Z:=hid (box_at (w2:=w9) Z.out qe);replace Y:=hid (box_at (w2:=w9) Y.out qe);replace KA:=hid (mv_gs (mv_rw RInt.map) (w2:=w9) KA.out qe);replace HB:Hid (Bt g w w9):=hid qh;replace HR:=hid R9;clear b9 R9;clear r9 h9;obtain rfl:=V9;replace Y:Hid (Box w9 w2.heap.size 122 (cSta ⟨x1,x2,x4,x6,x8⟩ ⟨p2,m2,c2⟩)):=hid Y.out;have q:∀W,Eqv (fun b=>w.heap.size<b/\¬b=w2.heap.size) w9 W->RSta (fun b=>w.heap.size<=b) W ⟨x1,x2,x4,x6,x8⟩ (cSta ⟨x1,x2,x4,x6,x8⟩ ⟨p2,m2,c2⟩):=fun W q=>⟨_,rfl,⟨ints_rw ((mv_gs (mv_rw RInt.map) KA.out q).mono RInt.map fun b hb _=>Nat.le_of_lt hb.1)⟩⟩
   obtain⟨W,hP⟩:=put_box (c:=cSta ⟨x1,x2,x4,x6,x8⟩ ⟨p2,m2,c2⟩) Z.out bSta (cSta_one _ _) rfl;have vr4:=hP.bt;have vr5:=hid hP.box;have vr6:=hP.size;go_wp2_with (first|(refine wpList_load_row rfl 122 _ rfl _ rfl 122 _ (0,0) _ Y.out Tryz.underlying122 rfl (by kernel_rfl) ?_)|(refine wpList_put rfl 122 _ _ rfl w.heap.size _ rfl rfl hP ?_))
   have HBB:=HB.out;refine bodyPost_ret (v:=.agg (cSta ⟨x1,x2,x4,x6,x8⟩ ⟨p2,m2,c2⟩)) ?_ rfl (PO.ok (st_end HS) qe ⟨_,rfl,q _ qe⟩ (HR.out.low qe));exact results_cell_row rfl _ _ w.heap.size 122 _ (0,0) _ rfl vr5.out Tryz.underlying122 rfl (by kernel_rfl)
 · replace HS:=st_br (st_bn HS i5);replace Z:=hid (box_at (w2:=w5) Z.out qe);replace Y:=hid (box_at (w2:=w5) Y.out qe);replace KA:=hid (mv_gs (mv_rw RInt.map) (w2:=w5) KA.out qe);replace HB:Hid (Bt g w w5):=hid qh;replace HR:=hid R5;clear b5 R5;clear i5;go_wp2_with fail;refine(endLine_any _ (HR.out.low qe)).mono ?_;rintro e w9 h9;rcases h9.cases with⟨x9,u9,v9,r9,rfl,b9,V9,R9⟩|⟨u9,r9,rfl,b9⟩
   rotate_left 1
   · exact zEF_0
   replace HS:=st_ok HS r9;replace Z:=hid (box_at (w2:=w9) Z.out qe);replace Y:=hid (box_at (w2:=w9) Y.out qe);replace KA:=hid (mv_gs (mv_rw RInt.map) (w2:=w9) KA.out qe);replace HB:Hid (Bt g w w9):=hid qh;replace HR:=hid R9;clear b9 R9;clear r9 h9;obtain rfl:=V9;replace Y:Hid (Box w9 w2.heap.size 122 (cSta ⟨x1,x2,x4,0,0⟩ ⟨p2,m2,c2⟩)):=hid Y.out;have q:∀W,Eqv (fun b=>w.heap.size<b/\¬b=w2.heap.size) w9 W->RSta (fun b=>w.heap.size<=b) W ⟨x1,x2,x4,0,0⟩ (cSta ⟨x1,x2,x4,0,0⟩ ⟨p2,m2,c2⟩):=fun W q=>⟨_,rfl,⟨ints_rw ((mv_gs (mv_rw RInt.map) KA.out q).mono RInt.map fun b hb _=>Nat.le_of_lt hb.1)⟩⟩
   obtain⟨W,hP⟩:=put_box (c:=cSta ⟨x1,x2,x4,0,0⟩ ⟨p2,m2,c2⟩) Z.out bSta (cSta_one _ _) rfl;have vr4:=hP.bt;have vr5:=hid hP.box;have vr6:=hP.size;go_wp2_with (first|(refine wpList_load_row rfl 122 _ rfl _ rfl 122 _ (0,0) _ Y.out Tryz.underlying122 rfl (by kernel_rfl) ?_)|(refine wpList_put rfl 122 _ _ rfl w.heap.size _ rfl rfl hP ?_))
   have HBB:=HB.out;refine bodyPost_ret (v:=.agg (cSta ⟨x1,x2,x4,0,0⟩ ⟨p2,m2,c2⟩)) ?_ rfl (PO.ok (st_end HS) qe ⟨_,rfl,q _ qe⟩ (HR.out.low qe));exact results_cell_row rfl _ _ w.heap.size 122 _ (0,0) _ rfl vr5.out Tryz.underlying122 rfl (by kernel_rfl)
end
end Go.Proofs.YtbgodajefaahdaaGreatDoor.Ps
namespace Go.Proofs.YtbgodajefaahdaaGreatDoor.Ps
open Go.Proofs.YtbgodajefaahdaaGreatDoor.Ps.P (rt bd see exp)
open Go.RowKit
open Go.Proofs.YtbgodajefaahdaaGreatDoor.Lx (Tk)
open Go.Proofs.YtbgodajefaahdaaGreatDoor.Md (Box Sized cLw cLw_one bLw RLw Trm cTrm RTrm)
set_option maxHeartbeats 1000000
theorem sTrm:Sized 3 RTrm:=by intro G w x c h;exact h.is
def lwF (z:Nat) (zc:Array Value) (v:Value) (l:List Trm):Nat->(Nat->Prop)->World->Prop
 | 0=>fun G w=>G z/\Box w z 127 zc
 | 1=>fun G w=>OwnF 181 3 RTrm G w v l
 | _+2=>fun _ _=>True
theorem lwF_mv (z:Nat) (zc:Array Value) (v:Value) (l:List Trm):∀j,Mv (lwF z zc v l j)
 | 0=>mv_box
 | 1=>mv_own RTrm.map
 | _+2=>mv_true
theorem lwF_put {z:Nat} {zc:Array Value} {v v':Value} {l l':List Trm}:∀j G W,(if j=1 then fun G w=>OwnF 181 3 RTrm G w v' l' else lwF z zc v l j) G W->lwF z zc v' l' j G W
 | 0,G,W,h=>h
 | 1,G,W,h=>h
 | _+2,G,W,h=>trivial
abbrev LwB (w:World) (B:Nat) (nm:ByteArray) (v:Value) (l:List Trm) (W:World):Prop:=Bld w.heap.size B 127 #[.string nm,v,.int .i64 0] (lwF w.heap.size #[.string ⟨#[]⟩,.slice none 0 0,.int .i64 0] v l) W
structure LwAt (L:Lk) (g:Nat) (r:R Md.Lw) (K:List Trm->P Md.Lw) (nm:ByteArray) (B N:Nat) (w:World) (k:Nat) (wr:World):Prop where
 ex:∃l u p c,run (bd (lwL k l) K) u=r/\u.length<k/\l.length+u.length<=30001/\LwB w B nm (.slice p l.length c) l wr/\Rd L g u wr
 bt:Bt g w wr
section
variable {L:Lk} {g:Nat} {t:List Tk}
theorem zEH_0 {p:Prop} (h:p:=by
 have HBB:=HB.out;go_wp2_with fail;exact⟨rfl,PO.no (st_no HS (by assumption)) qe⟩
 ):p:=h
theorem zEH_1 {p:Prop} (h:p:=by have HBB:=HB.out;exact Eqv.call (S:=fun k=>k≠g) (S':=fun k=>k<w.heap.size) (w:=wa) qe q5 (fun k hk _=>hk)):p:=h
set_option maxRecDepth 100000 in
theorem law_any (w:World) (hR:Rd L g t w):Calls Tryz.prog 157 #[.pointer (some ⟨g,0,none⟩)] w (PO L g (VR RLw) (run law t) w):=by
 have ht:=hR.small;obtain⟨r,hr⟩:∃r,run law t=r:=⟨_,rfl⟩
 rw[hr];have HS:=hid hr;have hg:=hR.blk;have HR:=hid hR;have HB:Hid (Bt g w w):=hid (Eqv.refl _ _);clear hR hr;have Z:=hid (Box.new (w:=w) (t:=127) (c:=#[.string ⟨#[]⟩,.slice none 0 0,.int .i64 0]));go_enter Tryz.func157,Tryz.ntmps157;go_wp2_with fail;refine(name_any _ (HR.out.low qe)).mono ?_;rintro e w1 h1;rcases h1.cases with⟨x1,u1,v1,r1,rfl,b1,V1,R1⟩|⟨u1,r1,rfl,b1⟩
 rotate_left 1
 · exact zEH_0
 replace HS:=st_ok HS r1;replace Z:=hid (box_at (w2:=w1) Z.out qe);replace HB:Hid (Bt g w w1):=hid qh;replace HR:=hid R1;clear b1 R1;clear r1 h1;obtain rfl:=V1;have hz1:=Z.out.lt;have hd1:Hid (LwB w w1.heap.size x1 (.slice none 0 0) [] (w1.alloc (.cells #[.string x1,.slice none 0 0,.int .i64 0] 127))):=hid (Bld.new Box.new (Nat.le_of_lt hz1) ⟨⟨Nat.le_refl _,by omega⟩,box_at Z.out qe⟩ mv_box fun j hj G=>(match j,hj with|1,_=>OwnF.nil|n+2,_=>trivial));go_wp2_with fail;refine(expect_any _ _ (HR.out.low qe) (by decide)).mono ?_;rintro e w2 h2;rcases h2.cases with⟨x2,u2,v2,r2,rfl,b2,V2,R2⟩|⟨u2,r2,rfl,b2⟩
 rotate_left 1
 · exact zEH_0
 replace HS:=st_ok HS r2;have HD:=hid (hd1.out.up (lwF_mv _ _ _ _) (w1:=w2) qe);have HTT:=hid (((Dn.exp (by decide):Dn 1 (exp zColon)).out HR.out.gd r2));replace HB:Hid (Bt g w w2):=hid qh;replace HR:=hid R2;clear b2 R2;clear r2 h2;obtain rfl:=V2;clear hd1;have ltt:=HTT.out.2;have sm2:=HR.out.small;go_wp2_with fail;have HLL:Hid (∀x v,run trm u2=.ok x v->v.length+1<=u2.length):=hid fun x v h=>by have:=(dn_trm.out HR.out.gd h).2;omega
 obtain⟨K,hK⟩:∃K:List Trm->P Md.Lw,(fun ts=>bd itg fun n=>bd eol fun _=>rt ⟨x1,ts,n⟩)=K:=⟨_,rfl⟩
 have HK:=hid hK;replace HS:Hid (run (bd (see zMinus (rt []) (bd trm fun x=>rt [x])) fun l=>bd (lwL FU l) K) u2=r):=hid (by rw[← hK];exact HS.out);clear hK HTT
 cases i3:is zMinus u2
 · replace HS:=st_bb (st_bo HS i3);refine(sees_any zMinus _ (HR.out.low qe)).mono ?_;rintro e w3 ⟨rfl,hb3⟩;have b3:Bt g _ w3:=Eqv.of hb3;have R3:Rd L g _ w3:=HR.out.low (by have q:Lw g _ w3:=Eqv.of hb3;exact qe);clear hb3;rw[i3];replace HD:=hid (HD.out.up (lwF_mv _ _ _ _) (w1:=w3) qe);replace HB:Hid (Bt g w w3):=hid qh;replace HR:=hid R3;clear b3 R3;clear i3;have lm:World.cell? w3 ⟨w1.heap.size,1,none⟩=some (.slice none 0 0):=HD.out.cell rfl;have hy3:=HD.out.box.lt;go_wp2_with fail;go_region_law (first|(rw[if_pos (by rfl)];refine Lib.wp_append_run _ _ _ _ _ rfl _ _ rfl rfl _ _ hrun ?_)|(go_simp;go_at_call 186;refine(term_any _ (HR.out.low qe)).mono ?_;rintro e' wa h3;rcases h3.cases with⟨x3,u3,v3,r3,rfl,b3,V3,R3⟩|⟨u3,r3,rfl,b3⟩;rotate_left 1;(have HBB:=HB.out;exact⟨rfl,PO.no (st_no HS (by assumption)) qe⟩);obtain rfl:=V3;obtain⟨v5,w5,hrun,⟨p5,n5,rfl⟩,k5,f5,D5,q5⟩:=HD.out.push gTrm RTrm.map sTrm (lwF_mv _ _ _ _) (w1:=wa) qe (i:=1) rfl (by decide) rfl (y:=x3) (ce:=cTrm x3) rfl (by decide);(have lm2:World.cell? wa ⟨w1.heap.size,1,none⟩=some (.slice none 0 0):=(box_but HD.out.box (S:=fun k=>k≠g) qe (by omega)).get rfl;have lm3:World.cell? (wa.alloc (.cells (cTrm x3) 181)) ⟨w1.heap.size,1,none⟩=some (.slice none 0 0):=(box_but HD.out.box (S:=fun k=>k≠g) qe (by omega)).get rfl;dsimp only [cTrm] at hrun lm3 ⊢)))
   all_goals
    have lt3:=HLL.out _ _ r3;replace HS:=st_br (st_ok HS r3);have HG:=hid (R3.low (w2:=w5.setCell ⟨w1.heap.size,1,none⟩ (.slice p5 (1) n5)) (q5.mono fun k _ hk=>by have hk':k<=g:=hk;omega));have HBF:Hid (Bt g w (w5.setCell ⟨w1.heap.size,1,none⟩ (.slice p5 (1) n5))):=hid zEH_1;have HDF:Hid (LwB w w1.heap.size x1 (.slice p5 1 n5) [x3] (w5.setCell ⟨w1.heap.size,1,none⟩ (.slice p5 1 n5))):=hid (D5.cast lwF_put rfl);clear HR HB HD D5 q5 R3 b3 hrun k5 f5 r3 h3 lm lm2 lm3 HLL Z;go_wp2_with fail;go_loopg [] FU (LwAt L g r K x1 w1.heap.size t.length w)
    case atStart=>exact⟨⟨[x3],u3,p5,n5,HS.out,by unfold FU;omega,by simp;omega,HDF.out,HG.out⟩,HBF.out⟩
    case round=>
     obtain⟨⟨l,u,p,c,hs,hk,hl,hd,hR⟩,hb⟩:=hrel;clear HS HG HBF HDF;obtain⟨k,rfl⟩:∃k,gk=k+1:=⟨gk-1,by omega⟩
     rw[lwL] at hs;have HL:=hid hl;have HKK:=hid hk;have HLL:Hid (∀x v,run sgt u=.ok x v->v.length+1<=u.length):=hid fun x v h=>(dn_sgt.out hR.gd h).2;have HD:=hid hd;have HR:=hid hR;have HB:=hid hb;have HS:=hid hs;have hbl:=hd.box.lt;clear hl hk hd hR hb hs;go_wp2_with fail;refine(accept_any zEq _ (HR.out.low qe) (by decide)).mono ?_;rintro e w8 ⟨b8,⟨i8,rfl,R8⟩|⟨i8,rfl,R8⟩⟩
     · replace HS:=st_br (st_by HS i8);replace HS:Hid (run (bd itg fun n=>bd eol fun _=>rt ⟨x1,l,n⟩) u.tail=r):=hid (by have h:=HS.out;rw[← HK.out] at h;exact h);replace HD:=hid (HD.out.up (lwF_mv _ _ _ _) (w1:=w8) qe);replace HB:Hid (Bt g w w8):=hid qh;replace HR:=hid R8;clear b8 R8;clear i8 HLL;have hb8:=HD.out.box.lt;go_wp2_with fail;refine(integer_any _ (HR.out.low qe)).mono ?_;rintro e w9 h9;rcases h9.cases with⟨x9,u9,v9,r9,rfl,b9,V9,R9⟩|⟨u9,r9,rfl,b9⟩
       rotate_left 1
       · have HBB:=HB.out;go_wp2_with fail;exact⟨rfl,PO.no (st_no HS (by assumption)) qe⟩
       replace HS:=st_ok HS r9;replace HD:=hid (HD.out.up (lwF_mv _ _ _ _) (w1:=w9) qe);replace HB:Hid (Bt g w w9):=hid qh;replace HR:=hid R9;clear b9 R9;clear r9 h9;obtain rfl:=V9;have hb9:=HD.out.box.lt;have lm:World.cell? w9 ⟨w1.heap.size,2,none⟩=some (.int .i64 0):=HD.out.cell rfl;have fy:∀i,World.frozen? w9 ⟨w1.heap.size,i,none⟩=false:=fun i=>HD.out.frz i;go_wp2_with fail;have HD2:=hid (HD.out.set (lwF_mv _ _ _ _) 2 (.int .i64 x9));clear lm fy;refine(endLine_any _ (HR.out.low qe)).mono ?_;rintro e w10 h10;rcases h10.cases with⟨x10,u10,v10,r10,rfl,b10,V10,R10⟩|⟨u10,r10,rfl,b10⟩
       rotate_left 1
       · have HBB:=HB.out;go_wp2_with fail;exact⟨rfl,PO.no (st_no HS (by assumption)) qe⟩
       replace HS:=st_ok HS r10;replace HD2:=hid (HD2.out.up (lwF_mv _ _ _ _) (w1:=w10) qe);replace HB:Hid (Bt g w w10):=hid qh;replace HR:=hid R10;clear b10 R10;clear r10 h10;obtain rfl:=V10;have Z0:=HD2.out.part (lwF_mv _ _ _ _) 0;have Z:=hid Z0.2;have Y:Hid (Box w10 w1.heap.size 127 (cLw ⟨x1,l,x9⟩ ⟨p,l.length,c⟩)):=hid HD2.out.box;have K1:=HD2.out.off (lwF_mv _ _ _ _) (z:=w.heap.size) (fun G h=>h.1) (j:=1) (by decide);obtain⟨p',c',e,hrw⟩:=OwnF.rw RTrm.map sTrm K1 (by have:=HL.out;omega);obtain⟨rfl,rfl⟩:p=p'/\c=c':=by simpa using e
       have q:∀W,Eqv (fun k=>w.heap.size<=k/\¬k=w.heap.size/\¬k=w1.heap.size) w10 W->RLw (fun b=>w.heap.size<=b) W ⟨x1,l,x9⟩ (cLw ⟨x1,l,x9⟩ ⟨p,l.length,c⟩):=fun W q=>⟨_,rfl,⟨(mv_gs (mv_rw RTrm.map) hrw q).mono RTrm.map fun b hb _=>hb.1⟩⟩
       clear Z0 K1 e hrw HD HD2;obtain⟨W,hP⟩:=put_box (c:=cLw ⟨x1,l,x9⟩ ⟨p,l.length,c⟩) Z.out bLw (cLw_one _ _) rfl;have vr4:=hP.bt;have vr5:=hid hP.box;have vr6:=hP.size;go_wp2_with (first|(refine wpList_load_row rfl 127 _ rfl _ rfl 127 _ (0,0) _ Y.out Tryz.underlying127 rfl (by kernel_rfl) ?_)|(refine wpList_put rfl 127 _ _ rfl w.heap.size _ rfl rfl hP ?_))
       have HBB:=HB.out;refine bodyPost_ret (v:=.agg (cLw ⟨x1,l,x9⟩ ⟨p,l.length,c⟩)) ?_ rfl (PO.ok (st_end HS) qe ⟨_,rfl,q _ qe⟩ (HR.out.low qe));exact results_cell_row rfl _ _ w.heap.size 127 _ (0,0) _ rfl vr5.out Tryz.underlying127 rfl (by kernel_rfl)
     · replace HS:=st_bb (st_bn HS i8);replace HD:=hid (HD.out.up (lwF_mv _ _ _ _) (w1:=w8) qe);replace HB:Hid (Bt g w w8):=hid qh;replace HR:=hid R8;clear b8 R8;clear i8;have lm:World.cell? w8 ⟨w1.heap.size,1,none⟩=some (.slice p l.length c):=HD.out.cell rfl;have hb8:=HD.out.box.lt;go_wp2_with fail;go_region_law (first|(rw[if_pos (by rfl)];refine Lib.wp_append_run _ _ _ _ _ rfl _ _ rfl rfl _ _ hrun ?_)|(go_simp;go_at_call 187;refine(signedTerm_any _ (HR.out.low qe)).mono ?_;rintro e' wa h3;rcases h3.cases with⟨x3,u3,v3,r3,rfl,b3,V3,R3⟩|⟨u3,r3,rfl,b3⟩;rotate_left 1;(have HBB:=HB.out;exact⟨rfl,PO.no (st_no HS (by assumption)) qe⟩);obtain rfl:=V3;obtain⟨v5,w5,hrun,⟨p5,n5,rfl⟩,k5,f5,D5,q5⟩:=HD.out.push gTrm RTrm.map sTrm (lwF_mv _ _ _ _) (w1:=wa) qe (i:=1) rfl (by decide) rfl (y:=x3) (ce:=cTrm x3) rfl (by have:=HL.out;omega);(have lm2:World.cell? wa ⟨w1.heap.size,1,none⟩=some (.slice p l.length c):=(box_but HD.out.box (S:=fun k=>k≠g) qe (by omega)).get rfl;have lm3:World.cell? (wa.alloc (.cells (cTrm x3) 181)) ⟨w1.heap.size,1,none⟩=some (.slice p l.length c):=(box_but HD.out.box (S:=fun k=>k≠g) qe (by omega)).get rfl;dsimp only [cTrm] at hrun lm3 ⊢)))
       all_goals
        have lt3:=HLL.out _ _ r3;replace HS:=st_ok HS r3;have HG:=hid (R3.low (w2:=w5.setCell ⟨w1.heap.size,1,none⟩ (.slice p5 (l.length+1) n5)) (q5.mono fun k _ hk=>by have hk':k<=g:=hk;omega));have HBF:Hid (Bt g w (w5.setCell ⟨w1.heap.size,1,none⟩ (.slice p5 (l.length+1) n5))):=hid zEH_1;have e1:(l++[x3]).length=l.length+1:=by simp
        have HDF:Hid (LwB w w1.heap.size x1 (.slice p5 (l++[x3]).length n5) (l++[x3]) (w5.setCell ⟨w1.heap.size,1,none⟩ (.slice p5 (l.length+1) n5))):=hid (by rw[e1];exact D5.cast lwF_put rfl);clear HR HB HD D5 q5 R3 b3 hrun k5 f5 r3 h3 lm lm2 lm3 HLL;go_wp2_with fail;go_roundg k
        case measure=>omega
        case rel=>exact⟨⟨l++[x3],u3,p5,n5,HS.out,by have:=HKK.out;omega,by have:=HL.out;rw[e1];omega,HDF.out,HG.out⟩,HBF.out⟩
 · replace HS:=st_br (st_bs HS i3);refine(sees_any zMinus _ (HR.out.low qe)).mono ?_;rintro e w3 ⟨rfl,hb3⟩;have b3:Bt g _ w3:=Eqv.of hb3;have R3:Rd L g _ w3:=HR.out.low (by have q:Lw g _ w3:=Eqv.of hb3;exact qe);clear hb3;rw[i3];replace HD:=hid (HD.out.up (lwF_mv _ _ _ _) (w1:=w3) qe);replace HB:Hid (Bt g w w3):=hid qh;replace HR:=hid R3;clear b3 R3;have HG:=HR;have HBF:=HB;have HDF:Hid (LwB w w1.heap.size x1 (.slice none 0 0) [] w3):=HD;clear i3 HR HB HD HLL Z;go_wp2_with fail;go_loopg [] FU (LwAt L g r K x1 w1.heap.size t.length w)
   case atStart=>exact⟨⟨[],u2,none,0,HS.out,by unfold FU;omega,by simp;omega,HDF.out,HG.out⟩,HBF.out⟩
   case round=>
    obtain⟨⟨l,u,p,c,hs,hk,hl,hd,hR⟩,hb⟩:=hrel;clear HS HG HBF HDF;obtain⟨k,rfl⟩:∃k,gk=k+1:=⟨gk-1,by omega⟩
    rw[lwL] at hs;have HL:=hid hl;have HKK:=hid hk;have HLL:Hid (∀x v,run sgt u=.ok x v->v.length+1<=u.length):=hid fun x v h=>(dn_sgt.out hR.gd h).2;have HD:=hid hd;have HR:=hid hR;have HB:=hid hb;have HS:=hid hs;have hbl:=hd.box.lt;clear hl hk hd hR hb hs;go_wp2_with fail;refine(accept_any zEq _ (HR.out.low qe) (by decide)).mono ?_;rintro e w8 ⟨b8,⟨i8,rfl,R8⟩|⟨i8,rfl,R8⟩⟩
    · replace HS:=st_br (st_by HS i8);replace HS:Hid (run (bd itg fun n=>bd eol fun _=>rt ⟨x1,l,n⟩) u.tail=r):=hid (by have h:=HS.out;rw[← HK.out] at h;exact h);replace HD:=hid (HD.out.up (lwF_mv _ _ _ _) (w1:=w8) qe);replace HB:Hid (Bt g w w8):=hid qh;replace HR:=hid R8;clear b8 R8;clear i8 HLL;have hb8:=HD.out.box.lt;go_wp2_with fail;refine(integer_any _ (HR.out.low qe)).mono ?_;rintro e w9 h9;rcases h9.cases with⟨x9,u9,v9,r9,rfl,b9,V9,R9⟩|⟨u9,r9,rfl,b9⟩
      rotate_left 1
      · exact zEH_0
      replace HS:=st_ok HS r9;replace HD:=hid (HD.out.up (lwF_mv _ _ _ _) (w1:=w9) qe);replace HB:Hid (Bt g w w9):=hid qh;replace HR:=hid R9;clear b9 R9;clear r9 h9;obtain rfl:=V9;have hb9:=HD.out.box.lt;have lm:World.cell? w9 ⟨w1.heap.size,2,none⟩=some (.int .i64 0):=HD.out.cell rfl;have fy:∀i,World.frozen? w9 ⟨w1.heap.size,i,none⟩=false:=fun i=>HD.out.frz i;go_wp2_with fail;have HD2:=hid (HD.out.set (lwF_mv _ _ _ _) 2 (.int .i64 x9));clear lm fy;refine(endLine_any _ (HR.out.low qe)).mono ?_;rintro e w10 h10;rcases h10.cases with⟨x10,u10,v10,r10,rfl,b10,V10,R10⟩|⟨u10,r10,rfl,b10⟩
      rotate_left 1
      · exact zEH_0
      replace HS:=st_ok HS r10;replace HD2:=hid (HD2.out.up (lwF_mv _ _ _ _) (w1:=w10) qe);replace HB:Hid (Bt g w w10):=hid qh;replace HR:=hid R10;clear b10 R10;clear r10 h10;obtain rfl:=V10;have Z0:=HD2.out.part (lwF_mv _ _ _ _) 0;have Z:=hid Z0.2;have Y:Hid (Box w10 w1.heap.size 127 (cLw ⟨x1,l,x9⟩ ⟨p,l.length,c⟩)):=hid HD2.out.box;have K1:=HD2.out.off (lwF_mv _ _ _ _) (z:=w.heap.size) (fun G h=>h.1) (j:=1) (by decide);obtain⟨p',c',e,hrw⟩:=OwnF.rw RTrm.map sTrm K1 (by have:=HL.out;omega);obtain⟨rfl,rfl⟩:p=p'/\c=c':=by simpa using e
      have q:∀W,Eqv (fun k=>w.heap.size<=k/\¬k=w.heap.size/\¬k=w1.heap.size) w10 W->RLw (fun b=>w.heap.size<=b) W ⟨x1,l,x9⟩ (cLw ⟨x1,l,x9⟩ ⟨p,l.length,c⟩):=fun W q=>⟨_,rfl,⟨(mv_gs (mv_rw RTrm.map) hrw q).mono RTrm.map fun b hb _=>hb.1⟩⟩
      clear Z0 K1 e hrw HD HD2;obtain⟨W,hP⟩:=put_box (c:=cLw ⟨x1,l,x9⟩ ⟨p,l.length,c⟩) Z.out bLw (cLw_one _ _) rfl;have vr4:=hP.bt;have vr5:=hid hP.box;have vr6:=hP.size;go_wp2_with (first|(refine wpList_load_row rfl 127 _ rfl _ rfl 127 _ (0,0) _ Y.out Tryz.underlying127 rfl (by kernel_rfl) ?_)|(refine wpList_put rfl 127 _ _ rfl w.heap.size _ rfl rfl hP ?_))
      have HBB:=HB.out;refine bodyPost_ret (v:=.agg (cLw ⟨x1,l,x9⟩ ⟨p,l.length,c⟩)) ?_ rfl (PO.ok (st_end HS) qe ⟨_,rfl,q _ qe⟩ (HR.out.low qe));exact results_cell_row rfl _ _ w.heap.size 127 _ (0,0) _ rfl vr5.out Tryz.underlying127 rfl (by kernel_rfl)
    · replace HS:=st_bb (st_bn HS i8);replace HD:=hid (HD.out.up (lwF_mv _ _ _ _) (w1:=w8) qe);replace HB:Hid (Bt g w w8):=hid qh;replace HR:=hid R8;clear b8 R8;clear i8;have lm:World.cell? w8 ⟨w1.heap.size,1,none⟩=some (.slice p l.length c):=HD.out.cell rfl;have hb8:=HD.out.box.lt;go_wp2_with fail;go_region_law (first|(rw[if_pos (by rfl)];refine Lib.wp_append_run _ _ _ _ _ rfl _ _ rfl rfl _ _ hrun ?_)|(go_simp;go_at_call 187;refine(signedTerm_any _ (HR.out.low qe)).mono ?_;rintro e' wa h3;rcases h3.cases with⟨x3,u3,v3,r3,rfl,b3,V3,R3⟩|⟨u3,r3,rfl,b3⟩;rotate_left 1;(have HBB:=HB.out;exact⟨rfl,PO.no (st_no HS (by assumption)) qe⟩);obtain rfl:=V3;obtain⟨v5,w5,hrun,⟨p5,n5,rfl⟩,k5,f5,D5,q5⟩:=HD.out.push gTrm RTrm.map sTrm (lwF_mv _ _ _ _) (w1:=wa) qe (i:=1) rfl (by decide) rfl (y:=x3) (ce:=cTrm x3) rfl (by have:=HL.out;omega);(have lm2:World.cell? wa ⟨w1.heap.size,1,none⟩=some (.slice p l.length c):=(box_but HD.out.box (S:=fun k=>k≠g) qe (by omega)).get rfl;have lm3:World.cell? (wa.alloc (.cells (cTrm x3) 181)) ⟨w1.heap.size,1,none⟩=some (.slice p l.length c):=(box_but HD.out.box (S:=fun k=>k≠g) qe (by omega)).get rfl;dsimp only [cTrm] at hrun lm3 ⊢)))
      all_goals
       have lt3:=HLL.out _ _ r3;replace HS:=st_ok HS r3;have HG:=hid (R3.low (w2:=w5.setCell ⟨w1.heap.size,1,none⟩ (.slice p5 (l.length+1) n5)) (q5.mono fun k _ hk=>by have hk':k<=g:=hk;omega));have HBF:Hid (Bt g w (w5.setCell ⟨w1.heap.size,1,none⟩ (.slice p5 (l.length+1) n5))):=hid zEH_1;have e1:(l++[x3]).length=l.length+1:=by simp
       have HDF:Hid (LwB w w1.heap.size x1 (.slice p5 (l++[x3]).length n5) (l++[x3]) (w5.setCell ⟨w1.heap.size,1,none⟩ (.slice p5 (l.length+1) n5))):=hid (by rw[e1];exact D5.cast lwF_put rfl);clear HR HB HD D5 q5 R3 b3 hrun k5 f5 r3 h3 lm lm2 lm3 HLL;go_wp2_with fail;go_roundg k
       case measure=>omega
       case rel=>exact⟨⟨l++[x3],u3,p5,n5,HS.out,by have:=HKK.out;omega,by have:=HL.out;rw[e1];omega,HDF.out,HG.out⟩,HBF.out⟩
end
end Go.Proofs.YtbgodajefaahdaaGreatDoor.Ps
