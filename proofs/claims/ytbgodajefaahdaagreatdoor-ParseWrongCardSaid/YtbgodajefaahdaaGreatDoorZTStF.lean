/-
  Parts of this proof: The contract of the reader's statement, where it. The contracts of the reader's loop and choice. The contract of the reader's statements, where a. The contract of the reader's statements, by leve. The contract of follow for statements.
-/
import Derived.Test.YtbgodajefaahdaaGreatDoorZTXC
set_option linter.unusedVariables false
open Go.Lib (hid)
namespace Go.Proofs.YtbgodajefaahdaaGreatDoor.Ps
open Go.Proofs.YtbgodajefaahdaaGreatDoor.Ps.P (rt bd acc kw exp)
open Go.RowKit
open Go.Proofs.YtbgodajefaahdaaGreatDoor.Lx (Tk mt)
open Go.Proofs.YtbgodajefaahdaaGreatDoor.Ex (Ex Kin)
open Go.Proofs.YtbgodajefaahdaaGreatDoor.Sm (St Dt Ints Lin Sin Pl cs sin_iff zE zD)
open Go.Proofs.YtbgodajefaahdaaGreatDoor.Md (Box)
set_option maxHeartbeats 4000000
def PD (vp:Option Addr) (vm vc:Nat) (wp:Option Addr) (wm wc:Nat):Pl:=⟨none,0,0,none,0,0,none,0,0,vp,vm,vc,wp,wm,wc,none,0,0,none,0,0⟩
theorem sin_d {G:Nat->Prop} {w:World} {o:Int} {nm f:ByteArray} {d:Dt} {b:Bool} {vp:Option Addr} {vm vc:Nat} {wp:Option Addr} {wm wc:Nat} (h:Ints G w d.vs vp vm) (h2:Ints G w d.ws wp wm):Sin G w (.mk o nm f zE zE [] d b [] []) (PD vp vm vc wp wm wc):=sin_iff.2 ⟨⟨Ex.Kin.zero,Ex.Kin.zero,Ex.Kin.zero,h,h2⟩,Sm.Lin.nil,Sm.Lin.nil⟩
def rIf (B:P (List St)):P St:=bd cnd fun e=>bd B fun b=>bd (acc kElse (bd eol fun _=>B) (rt [])) fun l=>bd (exp kEnd) fun _=>rt (.mk 3 mt mt e zE [] zD false b l)
def rWh (B:P (List St)):P St:=bd cnd fun e=>bd B fun b=>bd (exp kEnd) fun _=>rt (.mk 4 mt mt e zE [] zD false b [])
section
variable {L:Lk} {g:Nat} {t:List Tk}
theorem zCR_0 {p:Prop} (h:p:=by
 exact results_cell_row rfl _ _ w.heap.size 60 _ (0,0) _ rfl vr5.out Tryz.underlying60 rfl (by kernel_rfl)
 ):p:=h
theorem zCR_1 {p:Prop} (h:p:=by
 have HBB:=HB.out;go_wp2_with fail;exact⟨rfl,PO.no (st_no HS (by assumption)) qe⟩
 ):p:=h
theorem zCR_2 {p:Prop} (h:p:=by have hb':_<=b:=hb;first|(simp at hb';omega)|omega):p:=h
theorem zCR_3 {p:Prop} (h:p:=by simp[Value.oneCell']):p:=h
set_option maxRecDepth 100000 in
theorem statement_any (B:P (List St)) (w:World) (hR:Rd L g t w) (hCh:∀W u,Rd L g u W->u.length+1<=t.length->Calls Tryz.prog 130 #[.pointer (some ⟨g,0,none⟩)] W (PO L g VSt (run (rIf B) u) W)) (hLo:∀W u,Rd L g u W->u.length+1<=t.length->Calls Tryz.prog 131 #[.pointer (some ⟨g,0,none⟩)] W (PO L g VSt (run (rWh B) u) W)):Calls Tryz.prog 81 #[.pointer (some ⟨g,0,none⟩)] w (PO L g VSt (run (stt B) t) w):=by
 have HCH:=hid hCh;have HLO:=hid hLo;have HLT:Hid (t.tail.length+1<=t.length):=hid (by have:=hR.gd.ne;rw[List.length_tail];omega);clear hCh hLo;obtain⟨r,hr⟩:∃r,run (stt B) t=r:=⟨_,rfl⟩
 rw[hr];have HS:=hid hr;have hg:=hR.blk;have HR:=hid hR;have HB:Hid (Bt g w w):=hid (Eqv.refl _ _);clear hR hr;have Z:=hid (Box.new (w:=w) (t:=60) (c:=#[.int .i64 0,.string ⟨#[]⟩,.string ⟨#[]⟩,.int .i64 0,.string ⟨#[]⟩,.int .i64 0,.slice none 0 0,.int .i64 0,.string ⟨#[]⟩,.int .i64 0,.slice none 0 0,.slice none 0 0,.int .i64 0,.int .i64 0,.int .i64 0,.int .i64 0,.slice none 0 0,.slice none 0 0,.bool false,.slice none 0 0,.slice none 0 0]));go_enter Tryz.func81,Tryz.ntmps81;go_wp2_with fail;refine(accept_any kSet _ (HR.out.low qe) (by decide)).mono ?_;rintro e w1 ⟨b1,⟨i1,rfl,R1⟩|⟨i1,rfl,R1⟩⟩
 · replace HS:=st_yes HS i1;replace Z:=hid (box_at (w2:=w1) Z.out qe);replace HB:Hid (Bt g w w1):=hid qh;replace HR:=hid R1;clear b1 R1;clear i1;go_wp2_with fail;have hz103:=Z.out.lt;refine(set_any _ (HR.out.low qe)).mono ?_;rintro e w103 h103;rcases h103.cases with⟨x103,u103,v103,r103,rfl,b103,V103,R103⟩|⟨u103,r103,rfl,b103⟩
   rotate_left 1
   · have HBB:=HB.out;go_wp2_with fail;exact⟨rfl,PO.no (HS.out.symm.trans r103) qe⟩
   have HL103:=hid (HS.out.symm.trans r103);replace Z:=hid (box_at (w2:=w103) Z.out qe);replace HB:Hid (Bt g w w103):=hid qh;replace HR:=hid R103;clear b103 R103;clear r103 h103;obtain⟨P103,rfl,k103⟩:=V103;have KS103:Hid (Sin (fun b=>w.heap.size<b) w103 x103 P103):=hid (k103.mono fun b hb hlt=>zCR_2);clear k103;obtain⟨W,hP⟩:=put_box (c:=cs x103 P103) Z.out st_big (Sm.cs_one _ _) rfl;have vr4:=hP.bt;have vr5:=hid hP.box;have vr6:=hP.size;go_wp2_with (refine wpList_put rfl 60 _ _ rfl w.heap.size _ rfl rfl hP ?_)
   have HBB:=HB.out;refine bodyPost_ret (v:=.agg (cs (x103) (P103))) ?_ rfl (PO.ok (HL103.out) qe ⟨(P103),rfl,sin_fin KS103.out qe⟩ (HR.out.low qe));exact zCR_0
 replace HS:=st_not HS i1;replace Z:=hid (box_at (w2:=w1) Z.out qe);replace HB:Hid (Bt g w w1):=hid qh;replace HR:=hid R1;clear b1 R1;clear i1;go_wp2_with fail;refine(accept_any kDraw _ (HR.out.low qe) (by decide)).mono ?_;rintro e w2 ⟨b2,⟨i2,rfl,R2⟩|⟨i2,rfl,R2⟩⟩
 · replace HS:=st_yes HS i2;replace Z:=hid (box_at (w2:=w2) Z.out qe);replace HB:Hid (Bt g w w2):=hid qh;replace HR:=hid R2;clear b2 R2;clear i2;go_wp2_with fail;refine(name_any _ (HR.out.low qe)).mono ?_;rintro e w106 h106;rcases h106.cases with⟨x106,u106,v106,r106,rfl,b106,V106,R106⟩|⟨u106,r106,rfl,b106⟩
   rotate_left 1
   · exact zCR_1
   replace HS:=st_ok HS r106;replace Z:=hid (box_at (w2:=w106) Z.out qe);replace HB:Hid (Bt g w w106):=hid qh;replace HR:=hid R106;clear b106 R106;clear r106 h106;obtain rfl:=V106;have hz106:=Z.out.lt;go_wp2_with fail;refine(nameBehind_any _ _ (HR.out.low qe) (by decide)).mono ?_;rintro e w107 h107;rcases h107.cases with⟨x107,u107,v107,r107,rfl,b107,V107,R107⟩|⟨u107,r107,rfl,b107⟩
   rotate_left 1
   · exact zCR_1
   replace HS:=st_ok HS r107;replace Z:=hid (box_at (w2:=w107) Z.out qe);replace HB:Hid (Bt g w w107):=hid qh;replace HR:=hid R107;clear b107 R107;clear r107 h107;obtain rfl:=V107;have hz107:=Z.out.lt;go_wp2_with fail;refine(dist_any _ (HR.out.low qe)).mono ?_;rintro e w108 h108;rcases h108.cases with⟨x108,u108,v108,r108,rfl,b108,V108,R108⟩|⟨u108,r108,rfl,b108⟩
   rotate_left 1
   · exact zCR_1
   replace HS:=st_ok HS r108;replace Z:=hid (box_at (w2:=w108) Z.out qe);replace HB:Hid (Bt g w w108):=hid qh;replace HR:=hid R108;clear b108 R108;clear r108 h108;obtain⟨vp,vm,vc,wp,wm,wc,rfl,kv,kw⟩:=V108;have KV:Hid (∀W,Eqv (fun b=>w.heap.size<b) w108 W->Ints (fun b=>w.heap.size<=b) W x108.vs vp vm/\Ints (fun b=>w.heap.size<=b) W x108.ws wp wm):=hid fun W q=>by
    have hk:∀b,(fun b=>w107.heap.size<=b) b->b<w108.heap.size->(fun b=>w.heap.size<=b) b/\W.heap[b]?=w108.heap[b]?:=fun b hb hlt=>⟨by show w.heap.size<=b;have hb':w107.heap.size<=b:=hb;omega,q.block b hlt (by have hb':w107.heap.size<=b:=hb;omega)⟩
    exact⟨Sm.Ints.map q.size hk kv,Sm.Ints.map q.size hk kw⟩
   clear kv kw;dsimp only [cDs];obtain⟨W,hP⟩:=put_box (c:=cs (.mk 2 x106 x107 zE zE [] x108 false [] []) (PD vp vm vc wp wm wc)) Z.out st_big (Sm.cs_one _ _) rfl;have vr4:=hP.bt;have vr5:=hid hP.box;have vr6:=hP.size;go_wp2_with (refine wpList_put rfl 60 _ _ rfl w.heap.size _ rfl rfl hP ?_)
   have HBB:=HB.out;refine bodyPost_ret (v:=.agg (cs (.mk 2 x106 x107 zE zE [] x108 false [] []) (PD vp vm vc wp wm wc))) ?_ rfl (PO.ok ((st_end HS)) qe ⟨(PD vp vm vc wp wm wc),rfl,sin_d (KV.out _ qe).1 (KV.out _ qe).2⟩ (HR.out.low qe));exact zCR_0
 replace HS:=st_not HS i2;replace Z:=hid (box_at (w2:=w2) Z.out qe);replace HB:Hid (Bt g w w2):=hid qh;replace HR:=hid R2;clear b2 R2;clear i2;go_wp2_with fail;refine(accept_any kIf _ (HR.out.low qe) (by decide)).mono ?_;rintro e w3 ⟨b3,⟨i3,rfl,R3⟩|⟨i3,rfl,R3⟩⟩
 · replace HS:=st_yes HS i3;replace Z:=hid (box_at (w2:=w3) Z.out qe);replace HB:Hid (Bt g w w3):=hid qh;replace HR:=hid R3;clear b3 R3;clear i3;go_wp2_with fail;have hz109:=Z.out.lt;refine(HCH.out _ _ (HR.out.low qe) HLT.out).mono ?_;rintro e w109 h109;rcases h109.cases with⟨x109,u109,v109,r109,rfl,b109,V109,R109⟩|⟨u109,r109,rfl,b109⟩
   rotate_left 1
   · have HBB:=HB.out;go_wp2_with fail;exact⟨rfl,PO.no (HS.out.symm.trans r109) qe⟩
   have HL109:=hid (HS.out.symm.trans r109);replace Z:=hid (box_at (w2:=w109) Z.out qe);replace HB:Hid (Bt g w w109):=hid qh;replace HR:=hid R109;clear b109 R109;clear r109 h109;obtain⟨P109,rfl,k109⟩:=V109;have KS109:Hid (Sin (fun b=>w.heap.size<b) w109 x109 P109):=hid (k109.mono fun b hb hlt=>zCR_2);clear k109;obtain⟨W,hP⟩:=put_box (c:=cs x109 P109) Z.out st_big (Sm.cs_one _ _) rfl;have vr4:=hP.bt;have vr5:=hid hP.box;have vr6:=hP.size;go_wp2_with (refine wpList_put rfl 60 _ _ rfl w.heap.size _ rfl rfl hP ?_)
   have HBB:=HB.out;refine bodyPost_ret (v:=.agg (cs (x109) (P109))) ?_ rfl (PO.ok (HL109.out) qe ⟨(P109),rfl,sin_fin KS109.out qe⟩ (HR.out.low qe));exact zCR_0
 replace HS:=st_not HS i3;replace Z:=hid (box_at (w2:=w3) Z.out qe);replace HB:Hid (Bt g w w3):=hid qh;replace HR:=hid R3;clear b3 R3;clear i3;go_wp2_with fail;refine(accept_any kWhile _ (HR.out.low qe) (by decide)).mono ?_;rintro e w4 ⟨b4,⟨i4,rfl,R4⟩|⟨i4,rfl,R4⟩⟩
 · replace HS:=st_yes HS i4;replace Z:=hid (box_at (w2:=w4) Z.out qe);replace HB:Hid (Bt g w w4):=hid qh;replace HR:=hid R4;clear b4 R4;clear i4;go_wp2_with fail;have hz112:=Z.out.lt;refine(HLO.out _ _ (HR.out.low qe) HLT.out).mono ?_;rintro e w112 h112;rcases h112.cases with⟨x112,u112,v112,r112,rfl,b112,V112,R112⟩|⟨u112,r112,rfl,b112⟩
   rotate_left 1
   · have HBB:=HB.out;go_wp2_with fail;exact⟨rfl,PO.no (HS.out.symm.trans r112) qe⟩
   have HL112:=hid (HS.out.symm.trans r112);replace Z:=hid (box_at (w2:=w112) Z.out qe);replace HB:Hid (Bt g w w112):=hid qh;replace HR:=hid R112;clear b112 R112;clear r112 h112;obtain⟨P112,rfl,k112⟩:=V112;have KS112:Hid (Sin (fun b=>w.heap.size<b) w112 x112 P112):=hid (k112.mono fun b hb hlt=>zCR_2);clear k112;obtain⟨W,hP⟩:=put_box (c:=cs x112 P112) Z.out st_big (Sm.cs_one _ _) rfl;have vr4:=hP.bt;have vr5:=hid hP.box;have vr6:=hP.size;go_wp2_with (refine wpList_put rfl 60 _ _ rfl w.heap.size _ rfl rfl hP ?_)
   have HBB:=HB.out;refine bodyPost_ret (v:=.agg (cs (x112) (P112))) ?_ rfl (PO.ok (HL112.out) qe ⟨(P112),rfl,sin_fin KS112.out qe⟩ (HR.out.low qe));exact zCR_0
 replace HS:=st_not HS i4;replace Z:=hid (box_at (w2:=w4) Z.out qe);replace HB:Hid (Bt g w w4):=hid qh;replace HR:=hid R4;clear b4 R4;clear i4;go_wp2_with fail;refine(accept_any kHold _ (HR.out.low qe) (by decide)).mono ?_;rintro e w5 ⟨b5,⟨i5,rfl,R5⟩|⟨i5,rfl,R5⟩⟩
 · replace HS:=st_yes HS i5;replace Z:=hid (box_at (w2:=w5) Z.out qe);replace HB:Hid (Bt g w w5):=hid qh;replace HR:=hid R5;clear b5 R5;clear i5;go_wp2_with fail;have hz115:=Z.out.lt;refine(xpr_any _ (HR.out.low qe)).mono ?_;rintro e w115 h115;rcases h115.cases with⟨x115,u115,v115,r115,rfl,b115,V115,R115⟩|⟨u115,r115,rfl,b115⟩
   rotate_left 1
   · exact zCR_1
   replace HS:=st_ok HS r115;replace Z:=hid (box_at (w2:=w115) Z.out qe);replace HB:Hid (Bt g w w115):=hid qh;replace HR:=hid R115;clear b115 R115;clear r115 h115;obtain⟨p115,m115,c115,rfl,k115⟩:=V115;have KX115:Hid (Kin (fun b=>w.heap.size<b) w115 x115 p115 m115):=hid (k115.mono fun b hb hlt=>zCR_2);clear k115;dsimp only [cEx];obtain⟨W,hP⟩:=put_box (c:=#[.int .i64 5,.string ⟨#[]⟩,.string ⟨#[]⟩,.int .i64 x115.o,.string x115.s,.int .i64 x115.n,.slice p115 m115 c115,.int .i64 0,.string ⟨#[]⟩,.int .i64 0,.slice none 0 0,.slice none 0 0,.int .i64 0,.int .i64 0,.int .i64 0,.int .i64 0,.slice none 0 0,.slice none 0 0,.bool false,.slice none 0 0,.slice none 0 0]) Z.out st_big zCR_3 rfl;have vr4:=hP.bt;have vr5:=hid hP.box;have vr6:=hP.size;go_wp2_with (refine wpList_put rfl 60 _ _ rfl w.heap.size _ rfl rfl hP ?_)
   have HBB:=HB.out;refine bodyPost_ret (v:=.agg (cs (stm 5 mt mt x115) (PE0 p115 m115 c115))) ?_ rfl (PO.ok ((st_end HS)) qe ⟨(PE0 p115 m115 c115),rfl,sin_e (kin_fin KX115.out qe)⟩ (HR.out.low qe));exact zCR_0
 replace HS:=st_not HS i5;replace Z:=hid (box_at (w2:=w5) Z.out qe);replace HB:Hid (Bt g w w5):=hid qh;replace HR:=hid R5;clear b5 R5;clear i5;go_wp2_with fail;refine(accept_any kSeize _ (HR.out.low qe) (by decide)).mono ?_;rintro e w6 ⟨b6,⟨i6,rfl,R6⟩|⟨i6,rfl,R6⟩⟩
 · replace HS:=st_yes HS i6;replace Z:=hid (box_at (w2:=w6) Z.out qe);replace HB:Hid (Bt g w w6):=hid qh;replace HR:=hid R6;clear b6 R6;clear i6;go_wp2_with fail;have hz118:=Z.out.lt;refine(seize_any _ (HR.out.low qe)).mono ?_;rintro e w118 h118;rcases h118.cases with⟨x118,u118,v118,r118,rfl,b118,V118,R118⟩|⟨u118,r118,rfl,b118⟩
   rotate_left 1
   · have HBB:=HB.out;go_wp2_with fail;exact⟨rfl,PO.no (HS.out.symm.trans r118) qe⟩
   have HL118:=hid (HS.out.symm.trans r118);replace Z:=hid (box_at (w2:=w118) Z.out qe);replace HB:Hid (Bt g w w118):=hid qh;replace HR:=hid R118;clear b118 R118;clear r118 h118;obtain⟨P118,rfl,k118⟩:=V118;have KS118:Hid (Sin (fun b=>w.heap.size<b) w118 x118 P118):=hid (k118.mono fun b hb hlt=>zCR_2);clear k118;obtain⟨W,hP⟩:=put_box (c:=cs x118 P118) Z.out st_big (Sm.cs_one _ _) rfl;have vr4:=hP.bt;have vr5:=hid hP.box;have vr6:=hP.size;go_wp2_with (refine wpList_put rfl 60 _ _ rfl w.heap.size _ rfl rfl hP ?_)
   have HBB:=HB.out;refine bodyPost_ret (v:=.agg (cs (x118) (P118))) ?_ rfl (PO.ok (HL118.out) qe ⟨(P118),rfl,sin_fin KS118.out qe⟩ (HR.out.low qe));exact zCR_0
 replace HS:=st_not HS i6;replace Z:=hid (box_at (w2:=w6) Z.out qe);replace HB:Hid (Bt g w w6):=hid qh;replace HR:=hid R6;clear b6 R6;clear i6;go_wp2_with fail;refine(accept_any kRelease _ (HR.out.low qe) (by decide)).mono ?_;rintro e w7 ⟨b7,⟨i7,rfl,R7⟩|⟨i7,rfl,R7⟩⟩
 · replace HS:=st_yes HS i7;replace Z:=hid (box_at (w2:=w7) Z.out qe);replace HB:Hid (Bt g w w7):=hid qh;replace HR:=hid R7;clear b7 R7;clear i7;go_wp2_with fail;have hz121:=Z.out.lt;refine(change_any 7 _ (HR.out.low qe)).mono ?_;rintro e w121 h121;rcases h121.cases with⟨x121,u121,v121,r121,rfl,b121,V121,R121⟩|⟨u121,r121,rfl,b121⟩
   rotate_left 1
   · have HBB:=HB.out;go_wp2_with fail;exact⟨rfl,PO.no (HS.out.symm.trans r121) qe⟩
   have HL121:=hid (HS.out.symm.trans r121);replace Z:=hid (box_at (w2:=w121) Z.out qe);replace HB:Hid (Bt g w w121):=hid qh;replace HR:=hid R121;clear b121 R121;clear r121 h121;obtain⟨P121,rfl,k121⟩:=V121;have KS121:Hid (Sin (fun b=>w.heap.size<b) w121 x121 P121):=hid (k121.mono fun b hb hlt=>zCR_2);clear k121;obtain⟨W,hP⟩:=put_box (c:=cs x121 P121) Z.out st_big (Sm.cs_one _ _) rfl;have vr4:=hP.bt;have vr5:=hid hP.box;have vr6:=hP.size;go_wp2_with (refine wpList_put rfl 60 _ _ rfl w.heap.size _ rfl rfl hP ?_)
   have HBB:=HB.out;refine bodyPost_ret (v:=.agg (cs (x121) (P121))) ?_ rfl (PO.ok (HL121.out) qe ⟨(P121),rfl,sin_fin KS121.out qe⟩ (HR.out.low qe));exact zCR_0
 replace HS:=st_not HS i7;replace Z:=hid (box_at (w2:=w7) Z.out qe);replace HB:Hid (Bt g w w7):=hid qh;replace HR:=hid R7;clear b7 R7;clear i7;go_wp2_with fail;refine(accept_any kPut _ (HR.out.low qe) (by decide)).mono ?_;rintro e w8 ⟨b8,⟨i8,rfl,R8⟩|⟨i8,rfl,R8⟩⟩
 · replace HS:=st_yes HS i8;replace Z:=hid (box_at (w2:=w8) Z.out qe);replace HB:Hid (Bt g w w8):=hid qh;replace HR:=hid R8;clear b8 R8;clear i8;go_wp2_with fail;have hz124:=Z.out.lt;refine(xpr_any _ (HR.out.low qe)).mono ?_;rintro e w124 h124;rcases h124.cases with⟨x124,u124,v124,r124,rfl,b124,V124,R124⟩|⟨u124,r124,rfl,b124⟩
   rotate_left 1
   · exact zCR_1
   replace HS:=st_ok HS r124;replace Z:=hid (box_at (w2:=w124) Z.out qe);replace HB:Hid (Bt g w w124):=hid qh;replace HR:=hid R124;clear b124 R124;clear r124 h124;obtain⟨p124,m124,c124,rfl,k124⟩:=V124;have KX124:Hid (Kin (fun b=>w.heap.size<b) w124 x124 p124 m124):=hid (k124.mono fun b hb hlt=>zCR_2);clear k124;dsimp only [cEx];go_wp2_with fail;refine(nameBehind_any _ _ (HR.out.low qe) (by decide)).mono ?_;rintro e w125 h125;rcases h125.cases with⟨x125,u125,v125,r125,rfl,b125,V125,R125⟩|⟨u125,r125,rfl,b125⟩
   rotate_left 1
   · exact zCR_1
   replace HS:=st_ok HS r125;replace Z:=hid (box_at (w2:=w125) Z.out qe);replace KX124:=hid (kin_go (w2:=w125) KX124.out qe);replace HB:Hid (Bt g w w125):=hid qh;replace HR:=hid R125;clear b125 R125;clear r125 h125;obtain rfl:=V125;obtain⟨W,hP⟩:=put_box (c:=#[.int .i64 8,.string x125,.string ⟨#[]⟩,.int .i64 x124.o,.string x124.s,.int .i64 x124.n,.slice p124 m124 c124,.int .i64 0,.string ⟨#[]⟩,.int .i64 0,.slice none 0 0,.slice none 0 0,.int .i64 0,.int .i64 0,.int .i64 0,.int .i64 0,.slice none 0 0,.slice none 0 0,.bool false,.slice none 0 0,.slice none 0 0]) Z.out st_big zCR_3 rfl;have vr4:=hP.bt;have vr5:=hid hP.box;have vr6:=hP.size;go_wp2_with (refine wpList_put rfl 60 _ _ rfl w.heap.size _ rfl rfl hP ?_)
   have HBB:=HB.out;refine bodyPost_ret (v:=.agg (cs (stm 8 x125 mt x124) (PE0 p124 m124 c124))) ?_ rfl (PO.ok ((st_end HS)) qe ⟨(PE0 p124 m124 c124),rfl,sin_e (kin_fin KX124.out qe)⟩ (HR.out.low qe));exact zCR_0
 replace HS:=st_not HS i8;replace Z:=hid (box_at (w2:=w8) Z.out qe);replace HB:Hid (Bt g w w8):=hid qh;replace HR:=hid R8;clear b8 R8;clear i8;go_wp2_with fail;refine(accept_any kGet _ (HR.out.low qe) (by decide)).mono ?_;rintro e w9 ⟨b9,⟨i9,rfl,R9⟩|⟨i9,rfl,R9⟩⟩
 · replace HS:=st_yes HS i9;replace Z:=hid (box_at (w2:=w9) Z.out qe);replace HB:Hid (Bt g w w9):=hid qh;replace HR:=hid R9;clear b9 R9;clear i9;go_wp2_with fail;refine(name_any _ (HR.out.low qe)).mono ?_;rintro e w127 h127;rcases h127.cases with⟨x127,u127,v127,r127,rfl,b127,V127,R127⟩|⟨u127,r127,rfl,b127⟩
   rotate_left 1
   · exact zCR_1
   replace HS:=st_ok HS r127;replace Z:=hid (box_at (w2:=w127) Z.out qe);replace HB:Hid (Bt g w w127):=hid qh;replace HR:=hid R127;clear b127 R127;clear r127 h127;obtain rfl:=V127;go_wp2_with fail;refine(nameBehind_any _ _ (HR.out.low qe) (by decide)).mono ?_;rintro e w128 h128;rcases h128.cases with⟨x128,u128,v128,r128,rfl,b128,V128,R128⟩|⟨u128,r128,rfl,b128⟩
   rotate_left 1
   · exact zCR_1
   replace HS:=st_ok HS r128;replace Z:=hid (box_at (w2:=w128) Z.out qe);replace HB:Hid (Bt g w w128):=hid qh;replace HR:=hid R128;clear b128 R128;clear r128 h128;obtain rfl:=V128;obtain⟨W,hP⟩:=put_box (c:=#[.int .i64 9,.string x128,.string x127,.int .i64 0,.string ⟨#[]⟩,.int .i64 0,.slice none 0 0,.int .i64 0,.string ⟨#[]⟩,.int .i64 0,.slice none 0 0,.slice none 0 0,.int .i64 0,.int .i64 0,.int .i64 0,.int .i64 0,.slice none 0 0,.slice none 0 0,.bool false,.slice none 0 0,.slice none 0 0]) Z.out st_big zCR_3 rfl;have vr4:=hP.bt;have vr5:=hid hP.box;have vr6:=hP.size;go_wp2_with (refine wpList_put rfl 60 _ _ rfl w.heap.size _ rfl rfl hP ?_)
   have HBB:=HB.out;refine bodyPost_ret (v:=.agg (cs (stm 9 x128 x127 zE) (P0))) ?_ rfl (PO.ok ((st_end HS)) qe ⟨(P0),rfl,sin_e Ex.Kin.zero⟩ (HR.out.low qe));exact zCR_0
 replace HS:=st_not HS i9;replace Z:=hid (box_at (w2:=w9) Z.out qe);replace HB:Hid (Bt g w w9):=hid qh;replace HR:=hid R9;clear b9 R9;clear i9;go_wp2_with fail;refine(accept_any kRide _ (HR.out.low qe) (by decide)).mono ?_;rintro e w10 ⟨b10,⟨i10,rfl,R10⟩|⟨i10,rfl,R10⟩⟩
 · replace HS:=st_yes HS i10;replace Z:=hid (box_at (w2:=w10) Z.out qe);replace HB:Hid (Bt g w w10):=hid qh;replace HR:=hid R10;clear b10 R10;clear i10;go_wp2_with fail;refine(name_any _ (HR.out.low qe)).mono ?_;rintro e w130 h130;rcases h130.cases with⟨x130,u130,v130,r130,rfl,b130,V130,R130⟩|⟨u130,r130,rfl,b130⟩
   rotate_left 1
   · exact zCR_1
   replace HS:=st_ok HS r130;replace Z:=hid (box_at (w2:=w130) Z.out qe);replace HB:Hid (Bt g w w130):=hid qh;replace HR:=hid R130;clear b130 R130;clear r130 h130;obtain rfl:=V130;obtain⟨W,hP⟩:=put_box (c:=#[.int .i64 10,.string x130,.string ⟨#[]⟩,.int .i64 0,.string ⟨#[]⟩,.int .i64 0,.slice none 0 0,.int .i64 0,.string ⟨#[]⟩,.int .i64 0,.slice none 0 0,.slice none 0 0,.int .i64 0,.int .i64 0,.int .i64 0,.int .i64 0,.slice none 0 0,.slice none 0 0,.bool false,.slice none 0 0,.slice none 0 0]) Z.out st_big zCR_3 rfl;have vr4:=hP.bt;have vr5:=hid hP.box;have vr6:=hP.size;go_wp2_with (refine wpList_put rfl 60 _ _ rfl w.heap.size _ rfl rfl hP ?_)
   have HBB:=HB.out;refine bodyPost_ret (v:=.agg (cs (stm 10 x130 mt zE) (P0))) ?_ rfl (PO.ok ((st_end HS)) qe ⟨(P0),rfl,sin_e Ex.Kin.zero⟩ (HR.out.low qe));exact zCR_0
 replace HS:=st_not HS i10;replace Z:=hid (box_at (w2:=w10) Z.out qe);replace HB:Hid (Bt g w w10):=hid qh;replace HR:=hid R10;clear b10 R10;clear i10;go_wp2_with fail;refine(accept_any kWait _ (HR.out.low qe) (by decide)).mono ?_;rintro e w11 ⟨b11,⟨i11,rfl,R11⟩|⟨i11,rfl,R11⟩⟩
 · replace HS:=st_yes HS i11;replace Z:=hid (box_at (w2:=w11) Z.out qe);replace HB:Hid (Bt g w w11):=hid qh;replace HR:=hid R11;clear b11 R11;clear i11;go_wp2_with fail;refine(name_any _ (HR.out.low qe)).mono ?_;rintro e w133 h133;rcases h133.cases with⟨x133,u133,v133,r133,rfl,b133,V133,R133⟩|⟨u133,r133,rfl,b133⟩
   rotate_left 1
   · exact zCR_1
   replace HS:=st_ok HS r133;replace Z:=hid (box_at (w2:=w133) Z.out qe);replace HB:Hid (Bt g w w133):=hid qh;replace HR:=hid R133;clear b133 R133;clear r133 h133;obtain rfl:=V133;obtain⟨W,hP⟩:=put_box (c:=#[.int .i64 11,.string x133,.string ⟨#[]⟩,.int .i64 0,.string ⟨#[]⟩,.int .i64 0,.slice none 0 0,.int .i64 0,.string ⟨#[]⟩,.int .i64 0,.slice none 0 0,.slice none 0 0,.int .i64 0,.int .i64 0,.int .i64 0,.int .i64 0,.slice none 0 0,.slice none 0 0,.bool false,.slice none 0 0,.slice none 0 0]) Z.out st_big zCR_3 rfl;have vr4:=hP.bt;have vr5:=hid hP.box;have vr6:=hP.size;go_wp2_with (refine wpList_put rfl 60 _ _ rfl w.heap.size _ rfl rfl hP ?_)
   have HBB:=HB.out;refine bodyPost_ret (v:=.agg (cs (stm 11 x133 mt zE) (P0))) ?_ rfl (PO.ok ((st_end HS)) qe ⟨(P0),rfl,sin_e Ex.Kin.zero⟩ (HR.out.low qe));exact zCR_0
 replace HS:=st_not HS i11;replace Z:=hid (box_at (w2:=w11) Z.out qe);replace HB:Hid (Bt g w w11):=hid qh;replace HR:=hid R11;clear b11 R11;clear i11;go_wp2_with fail;refine(accept_any kSignal _ (HR.out.low qe) (by decide)).mono ?_;rintro e w12 ⟨b12,⟨i12,rfl,R12⟩|⟨i12,rfl,R12⟩⟩
 · replace HS:=st_yes HS i12;replace Z:=hid (box_at (w2:=w12) Z.out qe);replace HB:Hid (Bt g w w12):=hid qh;replace HR:=hid R12;clear b12 R12;clear i12;go_wp2_with fail;have hz136:=Z.out.lt;refine(change_any 12 _ (HR.out.low qe)).mono ?_;rintro e w136 h136;rcases h136.cases with⟨x136,u136,v136,r136,rfl,b136,V136,R136⟩|⟨u136,r136,rfl,b136⟩
   rotate_left 1
   · have HBB:=HB.out;go_wp2_with fail;exact⟨rfl,PO.no (HS.out.symm.trans r136) qe⟩
   have HL136:=hid (HS.out.symm.trans r136);replace Z:=hid (box_at (w2:=w136) Z.out qe);replace HB:Hid (Bt g w w136):=hid qh;replace HR:=hid R136;clear b136 R136;clear r136 h136;obtain⟨P136,rfl,k136⟩:=V136;have KS136:Hid (Sin (fun b=>w.heap.size<b) w136 x136 P136):=hid (k136.mono fun b hb hlt=>zCR_2);clear k136;obtain⟨W,hP⟩:=put_box (c:=cs x136 P136) Z.out st_big (Sm.cs_one _ _) rfl;have vr4:=hP.bt;have vr5:=hid hP.box;have vr6:=hP.size;go_wp2_with (refine wpList_put rfl 60 _ _ rfl w.heap.size _ rfl rfl hP ?_)
   have HBB:=HB.out;refine bodyPost_ret (v:=.agg (cs (x136) (P136))) ?_ rfl (PO.ok (HL136.out) qe ⟨(P136),rfl,sin_fin KS136.out qe⟩ (HR.out.low qe));exact zCR_0
 replace HS:=st_not HS i12;replace Z:=hid (box_at (w2:=w12) Z.out qe);replace HB:Hid (Bt g w w12):=hid qh;replace HR:=hid R12;clear b12 R12;clear i12;go_wp2_with fail;refine(accept_any kSend _ (HR.out.low qe) (by decide)).mono ?_;rintro e w13 ⟨b13,⟨i13,rfl,R13⟩|⟨i13,rfl,R13⟩⟩
 · replace HS:=st_yes HS i13;replace Z:=hid (box_at (w2:=w13) Z.out qe);replace HB:Hid (Bt g w w13):=hid qh;replace HR:=hid R13;clear b13 R13;clear i13;go_wp2_with fail;have hz139:=Z.out.lt;refine(send_any _ (HR.out.low qe)).mono ?_;rintro e w139 h139;rcases h139.cases with⟨x139,u139,v139,r139,rfl,b139,V139,R139⟩|⟨u139,r139,rfl,b139⟩
   rotate_left 1
   · have HBB:=HB.out;go_wp2_with fail;exact⟨rfl,PO.no (HS.out.symm.trans r139) qe⟩
   have HL139:=hid (HS.out.symm.trans r139);replace Z:=hid (box_at (w2:=w139) Z.out qe);replace HB:Hid (Bt g w w139):=hid qh;replace HR:=hid R139;clear b139 R139;clear r139 h139;obtain⟨P139,rfl,k139⟩:=V139;have KS139:Hid (Sin (fun b=>w.heap.size<b) w139 x139 P139):=hid (k139.mono fun b hb hlt=>zCR_2);clear k139;obtain⟨W,hP⟩:=put_box (c:=cs x139 P139) Z.out st_big (Sm.cs_one _ _) rfl;have vr4:=hP.bt;have vr5:=hid hP.box;have vr6:=hP.size;go_wp2_with (refine wpList_put rfl 60 _ _ rfl w.heap.size _ rfl rfl hP ?_)
   have HBB:=HB.out;refine bodyPost_ret (v:=.agg (cs (x139) (P139))) ?_ rfl (PO.ok (HL139.out) qe ⟨(P139),rfl,sin_fin KS139.out qe⟩ (HR.out.low qe));exact zCR_0
 replace HS:=st_not HS i13;replace Z:=hid (box_at (w2:=w13) Z.out qe);replace HB:Hid (Bt g w w13):=hid qh;replace HR:=hid R13;clear b13 R13;clear i13;go_wp2_with fail;refine(accept_any kSpawn _ (HR.out.low qe) (by decide)).mono ?_;rintro e w14 ⟨b14,⟨i14,rfl,R14⟩|⟨i14,rfl,R14⟩⟩
 · replace HS:=st_yes HS i14;replace Z:=hid (box_at (w2:=w14) Z.out qe);replace HB:Hid (Bt g w w14):=hid qh;replace HR:=hid R14;clear b14 R14;clear i14;go_wp2_with fail;have hz142:=Z.out.lt;refine(begin_any 14 ⟨#[]⟩ _ (HR.out.low qe)).mono ?_;rintro e w142 h142;rcases h142.cases with⟨x142,u142,v142,r142,rfl,b142,V142,R142⟩|⟨u142,r142,rfl,b142⟩
   rotate_left 1
   · have HBB:=HB.out;go_wp2_with fail;exact⟨rfl,PO.no (HS.out.symm.trans r142) qe⟩
   have HL142:=hid (HS.out.symm.trans r142);replace Z:=hid (box_at (w2:=w142) Z.out qe);replace HB:Hid (Bt g w w142):=hid qh;replace HR:=hid R142;clear b142 R142;clear r142 h142;obtain⟨P142,rfl,k142⟩:=V142;have KS142:Hid (Sin (fun b=>w.heap.size<b) w142 x142 P142):=hid (k142.mono fun b hb hlt=>zCR_2);clear k142;obtain⟨W,hP⟩:=put_box (c:=cs x142 P142) Z.out st_big (Sm.cs_one _ _) rfl;have vr4:=hP.bt;have vr5:=hid hP.box;have vr6:=hP.size;go_wp2_with (refine wpList_put rfl 60 _ _ rfl w.heap.size _ rfl rfl hP ?_)
   have HBB:=HB.out;refine bodyPost_ret (v:=.agg (cs (x142) (P142))) ?_ rfl (PO.ok (HL142.out) qe ⟨(P142),rfl,sin_fin KS142.out qe⟩ (HR.out.low qe));exact zCR_0
 replace HS:=st_not HS i14;replace Z:=hid (box_at (w2:=w14) Z.out qe);replace HB:Hid (Bt g w w14):=hid qh;replace HR:=hid R14;clear b14 R14;clear i14;go_wp2_with fail;refine(accept_any kObserve _ (HR.out.low qe) (by decide)).mono ?_;rintro e w15 ⟨b15,⟨i15,rfl,R15⟩|⟨i15,rfl,R15⟩⟩
 · replace HS:=st_yes HS i15;replace Z:=hid (box_at (w2:=w15) Z.out qe);replace HB:Hid (Bt g w w15):=hid qh;replace HR:=hid R15;clear b15 R15;clear i15;go_wp2_with fail;have hz145:=Z.out.lt;refine(change_any 15 _ (HR.out.low qe)).mono ?_;rintro e w145 h145;rcases h145.cases with⟨x145,u145,v145,r145,rfl,b145,V145,R145⟩|⟨u145,r145,rfl,b145⟩
   rotate_left 1
   · have HBB:=HB.out;go_wp2_with fail;exact⟨rfl,PO.no (HS.out.symm.trans r145) qe⟩
   have HL145:=hid (HS.out.symm.trans r145);replace Z:=hid (box_at (w2:=w145) Z.out qe);replace HB:Hid (Bt g w w145):=hid qh;replace HR:=hid R145;clear b145 R145;clear r145 h145;obtain⟨P145,rfl,k145⟩:=V145;have KS145:Hid (Sin (fun b=>w.heap.size<b) w145 x145 P145):=hid (k145.mono fun b hb hlt=>zCR_2);clear k145;obtain⟨W,hP⟩:=put_box (c:=cs x145 P145) Z.out st_big (Sm.cs_one _ _) rfl;have vr4:=hP.bt;have vr5:=hid hP.box;have vr6:=hP.size;go_wp2_with (refine wpList_put rfl 60 _ _ rfl w.heap.size _ rfl rfl hP ?_)
   have HBB:=HB.out;refine bodyPost_ret (v:=.agg (cs (x145) (P145))) ?_ rfl (PO.ok (HL145.out) qe ⟨(P145),rfl,sin_fin KS145.out qe⟩ (HR.out.low qe));exact zCR_0
 replace HS:=st_not HS i15;replace Z:=hid (box_at (w2:=w15) Z.out qe);replace HB:Hid (Bt g w w15):=hid qh;replace HR:=hid R15;clear b15 R15;clear i15;go_wp2_with fail;refine(accept_any kLevel _ (HR.out.low qe) (by decide)).mono ?_;rintro e w16 ⟨b16,⟨i16,rfl,R16⟩|⟨i16,rfl,R16⟩⟩
 · replace HS:=st_yes HS i16;replace Z:=hid (box_at (w2:=w16) Z.out qe);replace HB:Hid (Bt g w w16):=hid qh;replace HR:=hid R16;clear b16 R16;clear i16;go_wp2_with fail;have hz148:=Z.out.lt;refine(change_any 16 _ (HR.out.low qe)).mono ?_;rintro e w148 h148;rcases h148.cases with⟨x148,u148,v148,r148,rfl,b148,V148,R148⟩|⟨u148,r148,rfl,b148⟩
   rotate_left 1
   · have HBB:=HB.out;go_wp2_with fail;exact⟨rfl,PO.no (HS.out.symm.trans r148) qe⟩
   have HL148:=hid (HS.out.symm.trans r148);replace Z:=hid (box_at (w2:=w148) Z.out qe);replace HB:Hid (Bt g w w148):=hid qh;replace HR:=hid R148;clear b148 R148;clear r148 h148;obtain⟨P148,rfl,k148⟩:=V148;have KS148:Hid (Sin (fun b=>w.heap.size<b) w148 x148 P148):=hid (k148.mono fun b hb hlt=>zCR_2);clear k148;obtain⟨W,hP⟩:=put_box (c:=cs x148 P148) Z.out st_big (Sm.cs_one _ _) rfl;have vr4:=hP.bt;have vr5:=hid hP.box;have vr6:=hP.size;go_wp2_with (refine wpList_put rfl 60 _ _ rfl w.heap.size _ rfl rfl hP ?_)
   have HBB:=HB.out;refine bodyPost_ret (v:=.agg (cs (x148) (P148))) ?_ rfl (PO.ok (HL148.out) qe ⟨(P148),rfl,sin_fin KS148.out qe⟩ (HR.out.low qe));exact zCR_0
 replace HS:=st_not HS i16;replace Z:=hid (box_at (w2:=w16) Z.out qe);replace HB:Hid (Bt g w w16):=hid qh;replace HR:=hid R16;clear b16 R16;clear i16;go_wp2_with fail;refine(accept_any kAdd _ (HR.out.low qe) (by decide)).mono ?_;rintro e w17 ⟨b17,⟨i17,rfl,R17⟩|⟨i17,rfl,R17⟩⟩
 · replace HS:=st_yes HS i17;replace Z:=hid (box_at (w2:=w17) Z.out qe);replace HB:Hid (Bt g w w17):=hid qh;replace HR:=hid R17;clear b17 R17;clear i17;go_wp2_with fail;have hz151:=Z.out.lt;refine(change_any 17 _ (HR.out.low qe)).mono ?_;rintro e w151 h151;rcases h151.cases with⟨x151,u151,v151,r151,rfl,b151,V151,R151⟩|⟨u151,r151,rfl,b151⟩
   rotate_left 1
   · have HBB:=HB.out;go_wp2_with fail;exact⟨rfl,PO.no (HS.out.symm.trans r151) qe⟩
   have HL151:=hid (HS.out.symm.trans r151);replace Z:=hid (box_at (w2:=w151) Z.out qe);replace HB:Hid (Bt g w w151):=hid qh;replace HR:=hid R151;clear b151 R151;clear r151 h151;obtain⟨P151,rfl,k151⟩:=V151;have KS151:Hid (Sin (fun b=>w.heap.size<b) w151 x151 P151):=hid (k151.mono fun b hb hlt=>zCR_2);clear k151;obtain⟨W,hP⟩:=put_box (c:=cs x151 P151) Z.out st_big (Sm.cs_one _ _) rfl;have vr4:=hP.bt;have vr5:=hid hP.box;have vr6:=hP.size;go_wp2_with (refine wpList_put rfl 60 _ _ rfl w.heap.size _ rfl rfl hP ?_)
   have HBB:=HB.out;refine bodyPost_ret (v:=.agg (cs (x151) (P151))) ?_ rfl (PO.ok (HL151.out) qe ⟨(P151),rfl,sin_fin KS151.out qe⟩ (HR.out.low qe));exact zCR_0
 replace HS:=st_not HS i17;replace Z:=hid (box_at (w2:=w17) Z.out qe);replace HB:Hid (Bt g w w17):=hid qh;replace HR:=hid R17;clear b17 R17;clear i17;go_wp2_with fail;refine(accept_any kStop _ (HR.out.low qe) (by decide)).mono ?_;rintro e w18 ⟨b18,⟨i18,rfl,R18⟩|⟨i18,rfl,R18⟩⟩
 · replace HS:=st_yes HS i18;replace Z:=hid (box_at (w2:=w18) Z.out qe);replace HB:Hid (Bt g w w18):=hid qh;replace HR:=hid R18;clear b18 R18;clear i18;obtain⟨W,hP⟩:=put_box (c:=#[.int .i64 18,.string ⟨#[]⟩,.string ⟨#[]⟩,.int .i64 0,.string ⟨#[]⟩,.int .i64 0,.slice none 0 0,.int .i64 0,.string ⟨#[]⟩,.int .i64 0,.slice none 0 0,.slice none 0 0,.int .i64 0,.int .i64 0,.int .i64 0,.int .i64 0,.slice none 0 0,.slice none 0 0,.bool false,.slice none 0 0,.slice none 0 0]) Z.out st_big zCR_3 rfl;have vr4:=hP.bt;have vr5:=hid hP.box;have vr6:=hP.size;go_wp2_with (refine wpList_put rfl 60 _ _ rfl w.heap.size _ rfl rfl hP ?_)
   have HBB:=HB.out;refine bodyPost_ret (v:=.agg (cs (stm 18 mt mt zE) (P0))) ?_ rfl (PO.ok ((st_end HS)) qe ⟨(P0),rfl,sin_e Ex.Kin.zero⟩ (HR.out.low qe));exact zCR_0
 replace HS:=st_not HS i18;replace Z:=hid (box_at (w2:=w18) Z.out qe);replace HB:Hid (Bt g w w18):=hid qh;replace HR:=hid R18;clear b18 R18;clear i18;go_wp2_with fail;refine(wrong_any _ (HR.out.low qe)).mono ?_;rintro e w99 ⟨rfl,b99⟩;have HBB:=HB.out;go_wp2_with fail;exact⟨rfl,PO.no (st_fl HS) (by have q:Bt g _ w99:=Eqv.of b99;exact qe)⟩
end
end Go.Proofs.YtbgodajefaahdaaGreatDoor.Ps
namespace Go.Proofs.YtbgodajefaahdaaGreatDoor.Ps
open Go.RowKit
open Go.Proofs.YtbgodajefaahdaaGreatDoor.Lx (Tk mt)
open Go.Proofs.YtbgodajefaahdaaGreatDoor.Ex (Ex Kin)
open Go.Proofs.YtbgodajefaahdaaGreatDoor.Sm (St Lin Sin Pl cs sin_iff zE zD)
open Go.Proofs.YtbgodajefaahdaaGreatDoor.Md (Box)
set_option maxHeartbeats 2000000
def VLs (lo:Nat) (w:World) (l:List St) (v:Value):Prop:=∃p m c,v=.slice p m c/\Lin (fun b=>lo<=b) w l p m
def PL (ep:Option Addr) (em ec:Nat) (bp:Option Addr) (bm bc:Nat) (lp:Option Addr) (lm lc:Nat):Pl:=⟨ep,em,ec,none,0,0,none,0,0,none,0,0,none,0,0,bp,bm,bc,lp,lm,lc⟩
theorem sin_go {a:Nat} {w w2:World} {x:St} {P:Pl} (h:Sin (fun b=>a<b) w x P) (hb:Eqv (fun b=>a<b) w w2):Sin (fun b=>a<b) w2 x P:=Sm.Sin.map hb.size (fun b hg hlt=>⟨hg,hb.block b hlt hg⟩) x h
theorem kin_gs {S:Nat->Prop} {w w2:World} {x:Ex} {p:Option Addr} {m:Nat} (h:Kin S w x p m) (hb:Eqv S w w2):Kin S w2 x p m:=Ex.Kin.map hb.size (fun b hg hlt=>⟨hg,hb.block b hlt hg⟩) x h
theorem lin_gs {S:Nat->Prop} {w w2:World} {x:List St} {p:Option Addr} {m:Nat} (h:Lin S w x p m) (hb:Eqv S w w2):Lin S w2 x p m:=Sm.Lin.map hb.size (fun b hg hlt=>⟨hg,hb.block b hlt hg⟩) h
theorem sin_gs {S:Nat->Prop} {w w2:World} {x:St} {P:Pl} (h:Sin S w x P) (hb:Eqv S w w2):Sin S w2 x P:=Sm.Sin.map hb.size (fun b hg hlt=>⟨hg,hb.block b hlt hg⟩) x h
theorem sin_l {G:Nat->Prop} {w:World} {o:Int} {e:Ex} {b l:List St} {ep:Option Addr} {em ec:Nat} {bp:Option Addr} {bm bc:Nat} {lp:Option Addr} {lm lc:Nat} (h:Kin G w e ep em) (h2:Lin G w b bp bm) (h3:Lin G w l lp lm):Sin G w (.mk o mt mt e zE [] zD false b l) (PL ep em ec bp bm bc lp lm lc):=sin_iff.2 ⟨⟨h,Ex.Kin.zero,Ex.Kin.zero,ints_nil,ints_nil⟩,h2,h3⟩
section
variable {L:Lk} {g:Nat} {t:List Tk}
theorem zCS_0 {p:Prop} (h:p:=by
 have HBB:=HB.out;go_wp2_with fail;exact⟨rfl,PO.no (st_no HS (by assumption)) qe⟩
 ):p:=h
theorem zCS_1 {p:Prop} (h:p:=by
 exact results_cell_row rfl _ _ w.heap.size 60 _ (0,0) _ rfl vr5.out Tryz.underlying60 rfl (by kernel_rfl)
 ):p:=h
set_option maxRecDepth 100000 in
theorem loop_any (B:P (List St)) (w:World) (hR:Rd L g t w) (hB:∀W u,Rd L g u W->u.length<=t.length->Calls Tryz.prog 41 #[.pointer (some ⟨g,0,none⟩)] W (PO L g VLs (run B u) W)):Calls Tryz.prog 131 #[.pointer (some ⟨g,0,none⟩)] w (PO L g VSt (run (rWh B) t) w):=by
 have HBB2:=hid hB;have HD:Hid (∀x u,run cnd t=.ok x u->u.length<=t.length):=hid fun x u h=>by have:=(dn_cnd.out hR.gd h).2;omega
 clear hB;obtain⟨r,hr⟩:∃r,run (rWh B) t=r:=⟨_,rfl⟩
 rw[hr];have HS:=hid hr;have hg:=hR.blk;have HR:=hid hR;have HB:Hid (Bt g w w):=hid (Eqv.refl _ _);clear hR hr;have Z:=hid (Box.new (w:=w) (t:=60) (c:=#[.int .i64 0,.string ⟨#[]⟩,.string ⟨#[]⟩,.int .i64 0,.string ⟨#[]⟩,.int .i64 0,.slice none 0 0,.int .i64 0,.string ⟨#[]⟩,.int .i64 0,.slice none 0 0,.slice none 0 0,.int .i64 0,.int .i64 0,.int .i64 0,.int .i64 0,.slice none 0 0,.slice none 0 0,.bool false,.slice none 0 0,.slice none 0 0]));go_enter Tryz.func131,Tryz.ntmps131;go_wp2_with fail;have hz0:=Z.out.lt;refine(condition_any _ (HR.out.low qe)).mono ?_;rintro e w1 h1;rcases h1.cases with⟨x1,u1,v1,r1,rfl,b1,V1,R1⟩|⟨u1,r1,rfl,b1⟩
 rotate_left 1
 · exact zCS_0
 replace HS:=st_ok HS r1;replace Z:=hid (box_at (w2:=w1) Z.out qe);have HT:=hid (HD.out _ _ r1);replace HB:Hid (Bt g w w1):=hid qh;replace HR:=hid R1;clear b1 R1;clear r1 h1;obtain⟨p1,m1,c1,rfl,k1⟩:=V1;have KX1:Hid (Kin (fun b=>w.heap.size<b) w1 x1 p1 m1):=hid (k1.mono fun b hb hlt=>(by have hb':_<=b:=hb;first|(simp at hb';omega)|omega));clear k1;dsimp only [cEx];have hz1:=Z.out.lt;go_wp2_with fail;refine(HBB2.out _ _ (HR.out.low qe) HT.out).mono ?_;rintro e w2 h2;rcases h2.cases with⟨x2,u2,v2,r2,rfl,b2,V2,R2⟩|⟨u2,r2,rfl,b2⟩
 rotate_left 1
 · exact zCS_0
 replace HS:=st_ok HS r2;replace Z:=hid (box_at (w2:=w2) Z.out qe);replace KX1:=hid (kin_go (w2:=w2) KX1.out qe);replace HB:Hid (Bt g w w2):=hid qh;replace HR:=hid R2;clear b2 R2;clear r2 h2;obtain⟨p2,m2,c2,rfl,k2⟩:=V2;have hz2:=Z.out.lt;have KS:Hid (Sin (fun b=>w.heap.size<b) w2 (.mk 4 mt mt x1 zE [] zD false x2 []) (PL p1 m1 c1 p2 m2 c2 none 0 0)):=hid (sin_l KX1.out (k2.mono fun b hb hlt=>by
  have hb':w1.heap.size<=b:=hb;omega) Sm.Lin.nil)
 clear k2 KX1;have Y:=hid (Box.new (w:=w2) (t:=60) (c:=cs (.mk 4 mt mt x1 zE [] zD false x2 []) (PL p1 m1 c1 p2 m2 c2 none 0 0)));go_wp2_with (refine wpList_new rfl _ _ rfl _ (cs (.mk 4 mt mt x1 zE [] zD false x2 []) (PL p1 m1 c1 p2 m2 c2 none 0 0)) rfl rfl rfl rfl (Sm.cs_one _ _) ?_)
 refine(expect_any _ _ (HR.out.low qe) (by decide)).mono ?_;rintro e w3 h3;rcases h3.cases with⟨x3,u3,v3,r3,rfl,b3,V3,R3⟩|⟨u3,r3,rfl,b3⟩
 rotate_left 1
 · exact zCS_0
 replace HS:=st_ok HS r3;replace Z:=hid (box_at (w2:=w3) Z.out qe);replace Y:=hid (box_at (w2:=w3) Y.out qe);replace KS:=hid (sin_go (w2:=w3) KS.out qe);replace HB:Hid (Bt g w w3):=hid qh;replace HR:=hid R3;clear b3 R3;clear r3 h3;obtain rfl:=V3;obtain⟨W,hP⟩:=put_box (c:=cs (.mk 4 mt mt x1 zE [] zD false x2 []) (PL p1 m1 c1 p2 m2 c2 none 0 0)) Z.out st_big (Sm.cs_one _ _) rfl;have vr4:=hP.bt;have vr5:=hid hP.box;have vr6:=hP.size;go_wp2_with (first|(refine wpList_load_row rfl 60 _ rfl _ rfl 60 _ (0,0) _ Y.out Tryz.underlying60 rfl (by kernel_rfl) ?_)|(refine wpList_put rfl 60 _ _ rfl w.heap.size _ rfl rfl hP ?_))
 have HBB:=HB.out;refine bodyPost_ret (v:=.agg (cs (.mk 4 mt mt x1 zE [] zD false x2 []) (PL p1 m1 c1 p2 m2 c2 none 0 0))) ?_ rfl (PO.ok ((st_end HS)) qe ⟨(PL p1 m1 c1 p2 m2 c2 none 0 0),rfl,sin_fin KS.out qe⟩ (HR.out.low qe));exact zCS_1
set_option maxRecDepth 100000 in
theorem choice_any (B:P (List St)) (hBd:Dn 0 B) (w:World) (hR:Rd L g t w) (hB:∀W u,Rd L g u W->u.length<=t.length->Calls Tryz.prog 41 #[.pointer (some ⟨g,0,none⟩)] W (PO L g VLs (run B u) W)):Calls Tryz.prog 130 #[.pointer (some ⟨g,0,none⟩)] w (PO L g VSt (run (rIf B) t) w):=by
 have HBB2:=hid hB;have HD:Hid (∀x u,run cnd t=.ok x u->Gd u/\u.length<=t.length):=hid fun x u h=>by have:=dn_cnd.out hR.gd h;exact⟨this.1,by omega⟩
 have HD2:Hid (∀x u v,Gd u->run B u=.ok x v->Gd v/\v.length<=u.length):=hid fun x u v hg h=>by have:=hBd.out hg h;exact⟨this.1,by omega⟩
 clear hB hBd;obtain⟨r,hr⟩:∃r,run (rIf B) t=r:=⟨_,rfl⟩
 rw[hr];have HS:=hid hr;have hg:=hR.blk;have HR:=hid hR;have HB:Hid (Bt g w w):=hid (Eqv.refl _ _);clear hR hr;have Z:=hid (Box.new (w:=w) (t:=60) (c:=#[.int .i64 0,.string ⟨#[]⟩,.string ⟨#[]⟩,.int .i64 0,.string ⟨#[]⟩,.int .i64 0,.slice none 0 0,.int .i64 0,.string ⟨#[]⟩,.int .i64 0,.slice none 0 0,.slice none 0 0,.int .i64 0,.int .i64 0,.int .i64 0,.int .i64 0,.slice none 0 0,.slice none 0 0,.bool false,.slice none 0 0,.slice none 0 0]));go_enter Tryz.func130,Tryz.ntmps130;go_wp2_with fail;have hz0:=Z.out.lt;refine(condition_any _ (HR.out.low qe)).mono ?_;rintro e w1 h1;rcases h1.cases with⟨x1,u1,v1,r1,rfl,b1,V1,R1⟩|⟨u1,r1,rfl,b1⟩
 rotate_left 1
 · exact zCS_0
 replace HS:=st_ok HS r1;replace Z:=hid (box_at (w2:=w1) Z.out qe);have HT:=hid (HD.out _ _ r1);replace HB:Hid (Bt g w w1):=hid qh;replace HR:=hid R1;clear b1 R1;clear r1 h1;obtain⟨p1,m1,c1,rfl,k1⟩:=V1;have KX1:Hid (Kin (fun b=>w.heap.size<b) w1 x1 p1 m1):=hid (k1.mono fun b hb hlt=>(by have hb':_<=b:=hb;first|(simp at hb';omega)|omega));clear k1;dsimp only [cEx];have hz1:=Z.out.lt;go_wp2_with fail;refine(HBB2.out _ _ (HR.out.low qe) HT.out.2).mono ?_;rintro e w2 h2;rcases h2.cases with⟨x2,u2,v2,r2,rfl,b2,V2,R2⟩|⟨u2,r2,rfl,b2⟩
 rotate_left 1
 · exact zCS_0
 replace HS:=st_ok HS r2;replace Z:=hid (box_at (w2:=w2) Z.out qe);replace KX1:=hid (kin_go (w2:=w2) KX1.out qe);have HT2:=hid (HD2.out _ _ _ HT.out.1 r2);replace HB:Hid (Bt g w w2):=hid qh;replace HR:=hid R2;clear b2 R2;clear r2 h2;obtain⟨p2,m2,c2,rfl,k2⟩:=V2;have hz2:=Z.out.lt;have KL:Hid (Lin (fun b=>w.heap.size<b) w2 x2 p2 m2):=hid (k2.mono fun b hb hlt=>by
  have hb':w1.heap.size<=b:=hb;omega)
 have KS:Hid (Sin (fun b=>w.heap.size<b) w2 (.mk 3 mt mt x1 zE [] zD false x2 []) (PL p1 m1 c1 p2 m2 c2 none 0 0)):=hid (sin_l KX1.out KL.out Sm.Lin.nil);clear k2;have Y:=hid (Box.new (w:=w2) (t:=60) (c:=cs (.mk 3 mt mt x1 zE [] zD false x2 []) (PL p1 m1 c1 p2 m2 c2 none 0 0)));go_wp2_with (refine wpList_new rfl _ _ rfl _ (cs (.mk 3 mt mt x1 zE [] zD false x2 []) (PL p1 m1 c1 p2 m2 c2 none 0 0)) rfl rfl rfl rfl (Sm.cs_one _ _) ?_)
 refine(accept_any kElse _ (HR.out.low qe) (by decide)).mono ?_;rintro e w3 ⟨b3,⟨i3,rfl,R3⟩|⟨i3,rfl,R3⟩⟩
 · replace HS:=st_bb (st_by HS i3);have KE:Hid (Kin (fun b=>w.heap.size<b/\¬b=w2.heap.size) w3 x1 p1 m1):=hid (kin_gs (KX1.out.mono fun b hb hlt=>⟨hb,by omega⟩) qe);have KM:Hid (Lin (fun b=>w.heap.size<b/\¬b=w2.heap.size) w3 x2 p2 m2):=hid (lin_gs (KL.out.mono fun b hb hlt=>⟨hb,by omega⟩) qe);replace Z:=hid (box_at (w2:=w3) Z.out qe);replace Y:=hid (box_at (w2:=w3) Y.out qe);replace HB:Hid (Bt g w w3):=hid qh;replace HR:=hid R3;clear b3 R3;clear i3 KX1 KL KS;have hz3:=Z.out.lt;have hy3:=Y.out.lt;go_wp2_with fail;refine(endLine_any _ (HR.out.low qe)).mono ?_;rintro e w4 h4;rcases h4.cases with⟨x4,u4,v4,r4,rfl,b4,V4,R4⟩|⟨u4,r4,rfl,b4⟩
   rotate_left 1
   · exact zCS_0
   replace HS:=st_ok HS r4;replace Z:=hid (box_at (w2:=w4) Z.out qe);replace Y:=hid (box_at (w2:=w4) Y.out qe);replace KE:=hid (kin_gs (w2:=w4) KE.out qe);replace KM:=hid (lin_gs (w2:=w4) KM.out qe);have HT4:=hid (dn_eol.out HR.out.gd r4).2;replace HB:Hid (Bt g w w4):=hid qh;replace HR:=hid R4;clear b4 R4;clear r4 h4;obtain rfl:=V4;have hz4:=Z.out.lt;have hy4:=Y.out.lt;go_wp2_with fail;refine(HBB2.out _ _ (HR.out.low qe) (by have h1:=HT4.out;have h2:=HT2.out.2;have h3:=HT.out.2;rw[List.length_tail] at h1;omega)).mono ?_;rintro e w5 h5;rcases h5.cases with⟨x5,u5,v5,r5,rfl,b5,V5,R5⟩|⟨u5,r5,rfl,b5⟩
   rotate_left 1
   · exact zCS_0
   replace HS:=st_ok HS r5;replace Z:=hid (box_at (w2:=w5) Z.out qe);replace Y:=hid (box_at (w2:=w5) Y.out qe);replace KE:=hid (kin_gs (w2:=w5) KE.out qe);replace KM:=hid (lin_gs (w2:=w5) KM.out qe);replace HB:Hid (Bt g w w5):=hid qh;replace HR:=hid R5;clear b5 R5;clear r5 h5;obtain⟨p5,m5,c5,rfl,k5⟩:=V5;have KA:Hid (Sin (fun b=>w.heap.size<b/\¬b=w2.heap.size) (w5.setCell ⟨w2.heap.size,20,none⟩ (.slice p5 m5 c5)) (.mk 3 mt mt x1 zE [] zD false x2 x5) (PL p1 m1 c1 p2 m2 c2 p5 m5 c5)):=hid (sin_gs (sin_l KE.out KM.out (k5.mono fun b hb hlt=>by
    have hb':w4.heap.size<=b:=hb;exact⟨by omega,by omega⟩)) qe)
   clear KE KM k5;have l20:World.cell? _ ⟨_,20,none⟩=some (.slice none 0 0):=Y.out.get rfl;have fy:∀i,World.frozen? _ ⟨_,i,none⟩=false:=fun i=>box_frz (i:=i) Y.out;go_wp2_with fail;replace Y:=hid (box_set (i:=20) (v:=.slice p5 m5 c5) Y.out);replace Z:=hid (box_at (w2:=World.setCell w5 ⟨w2.heap.size,20,none⟩ (.slice p5 m5 c5)) Z.out qe);replace HR:=hid (HR.out.low (w2:=World.setCell w5 ⟨w2.heap.size,20,none⟩ (.slice p5 m5 c5)) qe);replace HB:=hid (Eqv.set (p:=⟨w2.heap.size,20,none⟩) (v:=.slice p5 m5 c5) HB.out (by first|(left;simp;done)|(left;simp;omega)|(right;simp;done)|(right;simp;omega)));replace Y:Hid (Box (w5.setCell ⟨w2.heap.size,20,none⟩ (.slice p5 m5 c5)) w2.heap.size 60 (cs (.mk 3 mt mt x1 zE [] zD false x2 x5) (PL p1 m1 c1 p2 m2 c2 p5 m5 c5))):=hid Y.out;clear l20 fy;refine(expect_any _ _ (HR.out.low qe) (by decide)).mono ?_;rintro e w6 h6;rcases h6.cases with⟨x6,u6,v6,r6,rfl,b6,V6,R6⟩|⟨u6,r6,rfl,b6⟩
   rotate_left 1
   · exact zCS_0
   replace HS:=st_ok HS r6;replace Z:=hid (box_at (w2:=w6) Z.out qe);replace Y:=hid (box_at (w2:=w6) Y.out qe);replace KA:=hid (sin_gs (w2:=w6) KA.out qe);replace HB:Hid (Bt g w w6):=hid qh;replace HR:=hid R6;clear b6 R6;clear r6 h6;obtain rfl:=V6;obtain⟨W,hP⟩:=put_box (c:=cs (.mk 3 mt mt x1 zE [] zD false x2 x5) (PL p1 m1 c1 p2 m2 c2 p5 m5 c5)) Z.out st_big (Sm.cs_one _ _) rfl;have vr4:=hP.bt;have vr5:=hid hP.box;have vr6:=hP.size;go_wp2_with (first|(refine wpList_load_row rfl 60 _ rfl _ rfl 60 _ (0,0) _ Y.out Tryz.underlying60 rfl (by kernel_rfl) ?_)|(refine wpList_put rfl 60 _ _ rfl w.heap.size _ rfl rfl hP ?_))
   have q:∀W,Eqv (fun b=>w.heap.size<b/\¬b=w2.heap.size) w6 W->Sin (fun b=>w.heap.size<=b) W (.mk 3 mt mt x1 zE [] zD false x2 x5) (PL p1 m1 c1 p2 m2 c2 p5 m5 c5):=fun W q=>(sin_gs KA.out q).mono fun b hb _=>Nat.le_of_lt hb.1;have HBB:=HB.out;refine bodyPost_ret (v:=.agg (cs (.mk 3 mt mt x1 zE [] zD false x2 x5) (PL p1 m1 c1 p2 m2 c2 p5 m5 c5))) ?_ rfl (PO.ok ((st_end HS)) qe ⟨(PL p1 m1 c1 p2 m2 c2 p5 m5 c5),rfl,q _ qe⟩ (HR.out.low qe));exact zCS_1
 · replace HS:=st_br (st_bn HS i3);replace KS:=hid (sin_go (w2:=w3) KS.out qe);replace Z:=hid (box_at (w2:=w3) Z.out qe);replace Y:=hid (box_at (w2:=w3) Y.out qe);replace HB:Hid (Bt g w w3):=hid qh;replace HR:=hid R3;clear b3 R3;clear i3 KX1 KL;go_wp2_with fail;refine(expect_any _ _ (HR.out.low qe) (by decide)).mono ?_;rintro e w4 h4;rcases h4.cases with⟨x4,u4,v4,r4,rfl,b4,V4,R4⟩|⟨u4,r4,rfl,b4⟩
   rotate_left 1
   · exact zCS_0
   replace HS:=st_ok HS r4;replace Z:=hid (box_at (w2:=w4) Z.out qe);replace Y:=hid (box_at (w2:=w4) Y.out qe);replace KS:=hid (sin_go (w2:=w4) KS.out qe);replace HB:Hid (Bt g w w4):=hid qh;replace HR:=hid R4;clear b4 R4;clear r4 h4;obtain rfl:=V4;obtain⟨W,hP⟩:=put_box (c:=cs (.mk 3 mt mt x1 zE [] zD false x2 []) (PL p1 m1 c1 p2 m2 c2 none 0 0)) Z.out st_big (Sm.cs_one _ _) rfl;have vr4:=hP.bt;have vr5:=hid hP.box;have vr6:=hP.size;go_wp2_with (first|(refine wpList_load_row rfl 60 _ rfl _ rfl 60 _ (0,0) _ Y.out Tryz.underlying60 rfl (by kernel_rfl) ?_)|(refine wpList_put rfl 60 _ _ rfl w.heap.size _ rfl rfl hP ?_))
   have HBB:=HB.out;refine bodyPost_ret (v:=.agg (cs (.mk 3 mt mt x1 zE [] zD false x2 []) (PL p1 m1 c1 p2 m2 c2 none 0 0))) ?_ rfl (PO.ok ((st_end HS)) qe ⟨(PL p1 m1 c1 p2 m2 c2 none 0 0),rfl,sin_fin KS.out qe⟩ (HR.out.low qe));exact zCS_1
end
end Go.Proofs.YtbgodajefaahdaaGreatDoor.Ps
namespace Go.Proofs.YtbgodajefaahdaaGreatDoor.Ps
open Go.RowKit
open Go.Proofs.YtbgodajefaahdaaGreatDoor.Lx (Tk)
open Go.Proofs.YtbgodajefaahdaaGreatDoor.Sm (St Lin Sin cs)
open Go.Proofs.YtbgodajefaahdaaGreatDoor.Md (Rec Mono Rw Box Kind Sized kind_of)
set_option maxHeartbeats 1000000
def RSt:Rec St:=fun G w x c=>∃P,c=cs x P/\Sin G w x P
theorem RSt.map:Mono RSt:=by
 intro G H w w2 hs hk x c ⟨P,h1,h2⟩;exact⟨P,h1,Sm.Sin.map hs hk x h2⟩
theorem sSt:Sized 21 RSt:=by
 intro G w x c ⟨P,h1,h2⟩;subst h1;exact⟨rfl,Sm.cs_one _ _⟩
theorem kSt:Kind 31 60 21:=kind_of Tryz.underlying31 (z:=.agg #[.int .i64 0,.string ⟨#[]⟩,.string ⟨#[]⟩,.int .i64 0,.string ⟨#[]⟩,.int .i64 0,.slice none 0 0,.int .i64 0,.string ⟨#[]⟩,.int .i64 0,.slice none 0 0,.slice none 0 0,.int .i64 0,.int .i64 0,.int .i64 0,.int .i64 0,.slice none 0 0,.slice none 0 0,.bool false,.slice none 0 0,.slice none 0 0]) (b:=312) (by kernel_rfl) (by decide) (by decide) (by decide)
theorem lin_rw {G:Nat->Prop} {w:World} {l:List St} {p:Option Addr} {m:Nat} (h:Rw 21 RSt G w l p m):Lin G w l p m:=by
 obtain⟨h1,h2,h3|⟨b,o,rfl,hg,hb,hc⟩⟩:=h
 · exact⟨h1,h2,.inl h3⟩
 · refine⟨h1,h2,.inr ⟨b,o,rfl,hg,hb,hid fun i hi=>?_⟩⟩;obtain⟨c,h4,h5,P,rfl,h6⟩:=hc.out i hi;exact⟨P,h5,h6⟩
structure StAt (L:Lk) (g:Nat) (r:R (List St)) (m:P St) (N:Nat) (w:World) (k:Nat) (v:Value) (wr:World):Prop where
 ex:∃l u,run (stL m k l) u=r/\u.length<k/\u.length<=N/\l.length+u.length<=30000/\OwnF 60 21 RSt (fun b=>w.heap.size<=b) wr v l/\Rd L g u wr
 bt:Bt g w wr
section
variable {L:Lk} {g:Nat} {t:List Tk}
theorem zCT_0 {p:Prop} (h:p:=by
 have HW:=hid hrw;clear hrw;go_wp2_with fail;go_ret;exact PO.ok (st_end HS) HB.out ⟨p,_,c,rfl,lin_rw HW.out⟩ HR.out
 ):p:=h
theorem zCT_1 {p:Prop} (h:p:=by have q:Lw g _ w1:=Eqv.of hb1;exact qe):p:=h
theorem zCT_2 {p:Prop} (h:p:=by have q:Lw g _ w2:=Eqv.of hb2;exact qe):p:=h
theorem zCT_3 {p:Prop} (h:p:=by have:=HL.out;omega):p:=h
set_option maxRecDepth 100000 in
theorem statements_any (m:P St) (hm:Dn 1 m) (w:World) (hR:Rd L g t w) (hC:∀W u,Rd L g u W->u.length<=t.length->Calls Tryz.prog 81 #[.pointer (some ⟨g,0,none⟩)] W (PO L g VSt (run m u) W)):Calls Tryz.prog 41 #[.pointer (some ⟨g,0,none⟩)] w (PO L g VLs (run (stL m FU []) t) w):=by
 have ht:=hR.small;have HC:=hid hC;have HM:=hid hm;clear hC hm;obtain⟨r,hr⟩:∃r,run (stL m FU []) t=r:=⟨_,rfl⟩
 rw[hr];have HS:=hid hr;have hg:=hR.blk;have HR:=hid hR;have HB:Hid (Bt g w w):=hid (Eqv.refl _ _);clear hR hr;go_enter Tryz.func41,Tryz.ntmps41;go_wp2_with fail;go_loopg [3] FU (StAt L g r m t.length w)
 case atStart=>exact⟨⟨[],t,HS.out,by unfold FU;omega,Nat.le_refl _,by simp;omega,OwnF.nil,HR.out⟩,HB.out⟩
 case round=>
  obtain⟨⟨l,u,hs,hk,hn,hl,ho,hR⟩,hb⟩:=hrel;clear HS HB HR;obtain⟨k,rfl⟩:∃k,gk=k+1:=⟨gk-1,by omega⟩
  rw[stL] at hs;have HL:=hid hl;have HK:=hid hk;have HN:=hid hn;have HO:=hid ho;have HR:=hid hR;have HB:=hid hb;have HS:=hid hs;have HDD:Hid (∀x v,run m u=.ok x v->Gd v/\v.length+1<=u.length):=hid fun x v h=>HM.out.out hR.gd h;have q:=fld_k (hd u).k (hd u).n (hd u).l (hd u).t;have hup:Hid (∀W,Bt g wr W->OwnF 60 21 RSt (fun b=>w.heap.size<=b) W u3 l):=hid fun W hW=>HO.out.up RSt.map (hW.mono fun k _ hk=>by have:w.heap.size<=k:=hk;omega) (Nat.le_refl _);clear hl hk hn ho hR hb hs
  cases i1:is kEnd u
  rotate_left 1
  · replace HS:=st_see HS i1;go_wp2_with fail;refine(sees_any kEnd _ (HR.out.low qe)).mono ?_;rintro e w1 ⟨rfl,hb1⟩;have b1:Bt g _ w1:=Eqv.of hb1;have R1:Rd L g _ w1:=HR.out.low zCT_1;clear hb1;rw[i1];have B1:=hid b1;replace HB:Hid (Bt g w w1):=hid qh;replace HR:=hid R1;clear b1 R1;clear i1;obtain⟨p,c,rfl,hrw⟩:=(hup.out w1 B1.out).rw RSt.map sSt zCT_3;exact zCT_0
  replace HS:=st_out HS i1
  cases i2:is kElse u
  rotate_left 1
  · replace HS:=st_see HS i2;go_wp2_with fail;refine(sees_any kEnd _ (HR.out.low qe)).mono ?_;rintro e w1 ⟨rfl,hb1⟩;have b1:Bt g _ w1:=Eqv.of hb1;have R1:Rd L g _ w1:=HR.out.low zCT_1;clear hb1;rw[i1];have B1:=hid b1;replace HB:Hid (Bt g w w1):=hid qh;replace HR:=hid R1;clear b1 R1;go_wp2_with fail;refine(sees_any kElse _ (HR.out.low qe)).mono ?_;rintro e w2 ⟨rfl,hb2⟩;have b2:Bt g _ w2:=Eqv.of hb2;have R2:Rd L g _ w2:=HR.out.low zCT_2;clear hb2;rw[i2];have B2:=hid (B1.out.trans b2);replace HB:Hid (Bt g w w2):=hid qh;replace HR:=hid R2;clear b2 R2;clear i1 i2;obtain⟨p,c,rfl,hrw⟩:=(hup.out w2 B2.out).rw RSt.map sSt zCT_3;exact zCT_0
  replace HS:=st_out HS i2;by_cases hk0:(hd u).k=0
  · have hk1:((hd u).k != 0)=false:=by simp[hk0]
    replace HS:=st_kd HS hk0;clear hk0;go_wp2_with fail;refine(sees_any kEnd _ (HR.out.low qe)).mono ?_;rintro e w1 ⟨rfl,hb1⟩;have b1:Bt g _ w1:=Eqv.of hb1;have R1:Rd L g _ w1:=HR.out.low zCT_1;clear hb1;rw[i1];have B1:=hid b1;replace HB:Hid (Bt g w w1):=hid qh;replace HR:=hid R1;clear b1 R1;go_wp2_with fail;refine(sees_any kElse _ (HR.out.low qe)).mono ?_;rintro e w2 ⟨rfl,hb2⟩;have b2:Bt g _ w2:=Eqv.of hb2;have R2:Rd L g _ w2:=HR.out.low zCT_2;clear hb2;rw[i2];have B2:=hid (B1.out.trans b2);replace HB:Hid (Bt g w w2):=hid qh;replace HR:=hid R2;clear b2 R2;clear i1 i2;go_wp2_with fail;refine(token_any _ (HR.out.low qe)).mono ?_;rintro e w3 ⟨rfl,hb3⟩;have b3:Bt g _ w3:=Eqv.of hb3;have R3:Rd L g _ w3:=HR.out.low (by have q:Lw g _ w3:=Eqv.of hb3;exact qe);have B3:=hid (B2.out.trans b3);clear hb3;replace HB:Hid (Bt g w w3):=hid qh;replace HR:=hid R3;clear b3 R3;unfold tv;obtain⟨p,c,rfl,hrw⟩:=(hup.out w3 B3.out).rw RSt.map sSt zCT_3;exact zCT_0
  · have hk1:((hd u).k != 0)=true:=by simp[hk0]
    replace HS:=st_nk HS hk0;clear hk0;go_wp2_with fail;refine(sees_any kEnd _ (HR.out.low qe)).mono ?_;rintro e w1 ⟨rfl,hb1⟩;have b1:Bt g _ w1:=Eqv.of hb1;have R1:Rd L g _ w1:=HR.out.low zCT_1;clear hb1;rw[i1];have B1:=hid b1;replace HB:Hid (Bt g w w1):=hid qh;replace HR:=hid R1;clear b1 R1;go_wp2_with fail;refine(sees_any kElse _ (HR.out.low qe)).mono ?_;rintro e w2 ⟨rfl,hb2⟩;have b2:Bt g _ w2:=Eqv.of hb2;have R2:Rd L g _ w2:=HR.out.low zCT_2;clear hb2;rw[i2];have B2:=hid (B1.out.trans b2);replace HB:Hid (Bt g w w2):=hid qh;replace HR:=hid R2;clear b2 R2;clear i1 i2;go_wp2_with fail;refine(token_any _ (HR.out.low qe)).mono ?_;rintro e w3 ⟨rfl,hb3⟩;have b3:Bt g _ w3:=Eqv.of hb3;have R3:Rd L g _ w3:=HR.out.low (by have q:Lw g _ w3:=Eqv.of hb3;exact qe);have B3:=hid (B2.out.trans b3);clear hb3;replace HB:Hid (Bt g w w3):=hid qh;replace HR:=hid R3;clear b3 R3;unfold tv;obtain⟨p5,c5,hv⟩:∃p c,u3=.slice p l.length c:=by
     obtain⟨p,c,h,-⟩:=HO.out.rw RSt.map sSt zCT_3;exact⟨p,c,h⟩
    subst hv;go_wp2_with fail;clear q hk1;refine(HC.out _ _ (HR.out.low qe) HN.out).mono ?_;rintro e w4 h4;rcases h4.cases with⟨x4,u4',v4,r4,rfl,b4,V4,R4⟩|⟨u4',r4,rfl,b4⟩
    rotate_left 1
    · have HBB:=HB.out;go_wp2_with fail;exact⟨rfl,PO.no (st_no HS (by assumption)) qe⟩
    have HTT:=hid (HDD.out _ _ r4);replace HS:=st_ok HS r4;have s3:=HB.out.size;have s4:=b4.size;obtain⟨P4,rfl,k4⟩:=V4;have o4':OwnF 60 21 RSt (fun b=>w.heap.size<=b) w4 (.slice p5 l.length c5) l:=(hup.out w4 (B3.out.trans b4))
    have HY:Hid (RSt (fun b=>w.heap.size<=b/\¬(Value.slice p5 l.length c5).ownBlock=some b) (w4.alloc (.cells (cs x4 P4) 60)) x4 (cs x4 P4)):=hid ⟨P4,rfl,Sm.Sin.map (G:=fun b=>w3.heap.size<=b) (by simp) (fun b hb hlt=>⟨⟨by have hb':w3.heap.size<=b:=hb;omega,fun e=>by have h9:=HO.out.own e;have h8:=B3.out.size;have hb':w3.heap.size<=b:=hb;omega⟩,by show(w4.heap.push _)[b]?=_;rw[Array.getElem?_push,if_neg (by omega)]⟩) _ k4⟩;replace HO:=hid o4';replace HB:Hid (Bt g w w4):=hid qh;replace HR:=hid R4;clear b4 R4;clear r4 h4 o4' HDD k4 hup;have o4:OwnF 60 21 RSt (fun b=>w.heap.size<=b) (w4.alloc (.cells (cs x4 P4) 60)) (.slice p5 l.length c5) l:=HO.out.up RSt.map qe (Nat.le_refl _);have c4:Box (w4.alloc (.cells (cs x4 P4) 60)) w4.heap.size 60 (cs x4 P4):=Box.new;obtain⟨v5,w5,hrun,o5,hg5⟩:=o4.app kSt RSt.map sSt c4.cell (x:=x4) HY.out zCT_3;have B5:Hid (Bt g w w5):=hid (Eqv.grown qh hg5 fun b hb=>.inl (o4.blk b hb));have R5:Hid (Rd L g u4' w5):=hid (HR.out.low (Eqv.grown qe hg5 fun b hb=>.inr (by have:=o4.blk b hb;show ¬b<=g;omega)));have O5:Hid (OwnF 60 21 RSt (fun b=>w.heap.size<=b) w5 v5 (l++[x4])):=hid (o5.map RSt.map (Nat.le_refl _) fun b hb _=>⟨by
     rcases hb with hb|hb
     · exact hb
     · have e:(w4.alloc (.cells (cs x4 P4) 60)).heap.size=w4.heap.size+1:=by simp
       omega,rfl⟩)
    clear o4 c4 o5 hg5 HB HR HO HY;dsimp only [cs] at hrun ⊢;go_wp2_with (at_builtin;refine Lib.wpList_append_run _ rfl _ _ _ _ rfl _ _ rfl rfl _ _ hrun ?_)
    refine(endLine_any _ R5.out).mono ?_;rintro e w6 h6;rcases h6.cases with⟨x6,u6',v6,r6,rfl,b6,V6,R6⟩|⟨u6',r6,rfl,b6⟩
    rotate_left 1
    · have HBB:=B5.out;go_wp2_with fail;exact⟨rfl,PO.no (st_no HS (by assumption)) qe⟩
    have HT6:=hid ((dn_eol.out HTT.out.1 r6).2);replace HS:=st_ok HS r6;obtain rfl:=V6;have O6:Hid (OwnF 60 21 RSt (fun b=>w.heap.size<=b) w6 v5 (l++[x4])):=hid (O5.out.up RSt.map (b6.mono fun k _ hk=>by have:w.heap.size<=k:=hk;omega) (Nat.le_refl _));have B6:Hid (Bt g w w6):=hid (by have HBB:=B5.out;exact qe);have R6':=hid R6;clear b6 R6 r6 h6 hrun B5 R5 O5;go_wp2_with fail;go_roundg k
    case measure=>omega
    case rel=>
     have h1:=HTT.out.2;have h2:=HK.out;have h3:=HN.out;have h4:=HL.out;have h5:=HT6.out;exact⟨⟨_,u6',HS.out,by omega,by omega,by simp at h4 ⊢; omega,O6.out,R6'.out⟩,B6.out⟩
end
end Go.Proofs.YtbgodajefaahdaaGreatDoor.Ps
namespace Go.Proofs.YtbgodajefaahdaaGreatDoor.Ps
open Go.RowKit
open Go.Proofs.YtbgodajefaahdaaGreatDoor.Lx (Tk)
open Go.Proofs.YtbgodajefaahdaaGreatDoor.Sm (Lin)
set_option maxHeartbeats 1000000
theorem sts_all (L:Lk) (g:Nat):∀n W u,Rd L g u W->u.length<n->Calls Tryz.prog 41 #[.pointer (some ⟨g,0,none⟩)] W (PO L g VLs (run (fS n) u) W)
 | 0,_,_,_,h=>absurd h (Nat.not_lt_zero _)
 | n+1,W,u,hR,h=>by
  rw[fS];refine statements_any (stt (fS n)) (dn_stt (dn_fS n)) W hR fun W1 u1 hR1 h1=>?_;refine statement_any (fS n) W1 hR1 (fun W2 u2 hR2 h2=>?_) (fun W2 u2 hR2 h2=>?_)
  · exact choice_any (fS n) (dn_fS n) W2 hR2 fun W3 u3 hR3 h3=>sts_all L g n W3 u3 hR3 (by omega)
  · exact loop_any (fS n) W2 hR2 fun W3 u3 hR3 h3=>sts_all L g n W3 u3 hR3 (by omega)
section
variable {L:Lk} {g:Nat} {t:List Tk}
theorem sts_any (w:World) (hR:Rd L g t w):Calls Tryz.prog 41 #[.pointer (some ⟨g,0,none⟩)] w (PO L g VLs (run sts t) w):=sts_all L g FU w t hR hR.fu
set_option maxRecDepth 100000 in
theorem onlyStatements_any (w:World) (hR:Rd L g t w):Calls Tryz.prog 17 #[.pointer (some ⟨g,0,none⟩)] w (PE g VLs (run oSt t) w):=by
 obtain⟨r,hr⟩:∃r,run oSt t=r:=⟨_,rfl⟩
 rw[hr];have HS:=hid hr;have hg:=hR.blk;have HR:=hid hR;have HB:Hid (Bt g w w):=hid (Eqv.refl _ _);clear hR hr;go_enter Tryz.func17,Tryz.ntmps17;go_wp2_with fail;refine(sts_any _ (HR.out.low qe)).mono ?_;rintro e w1 h1;rcases h1.cases with⟨x1,u1,v1,r1,rfl,b1,V1,R1⟩|⟨u1,r1,rfl,b1⟩
 rotate_left 1
 · have HBB:=HB.out;go_wp2_with fail;exact⟨rfl,PE.no (st_no HS r1) qe⟩
 replace HS:=st_ok HS r1;obtain⟨p1,m1,c1,rfl,k1⟩:=V1;have KL:=hid k1;have hz:w.heap.size<=w1.heap.size:=b1.size;replace HB:Hid (Bt g w w1):=hid qh;replace HR:=hid R1;clear b1 R1;clear k1 h1 r1;go_wp2_with fail;refine(endText_any _ (HR.out.low qe)).mono ?_;rintro e w3 h3;rcases h3.cases with⟨x3,u3,v3,r3,rfl,b3,V3⟩|⟨u3,r3,rfl,b3⟩
 rotate_left 1
 · have HBB:=HB.out;go_wp2_with fail;exact⟨rfl,PE.no (st_no HS r3) qe⟩
 replace HS:=st_ok HS r3;obtain rfl:=V3;have KM:Hid (Lin (fun b=>w.heap.size<=b) w3 x1 p1 m1):=hid (Sm.Lin.map b3.size (fun b hb hlt=>⟨hb,b3.block b hlt (by have hb':w.heap.size<=b:=hb;omega)⟩) KL.out);replace HB:Hid (Bt g w w3):=hid qh;clear b3 r3 h3 KL;go_wp2_with fail;go_ret;exact PE.ok (st_end HS) HB.out ⟨p1,m1,c1,rfl,KM.out⟩
end
end Go.Proofs.YtbgodajefaahdaaGreatDoor.Ps
namespace Go.Proofs.YtbgodajefaahdaaGreatDoor.Ps
open Go.RowKit
open Go.Proofs.YtbgodajefaahdaaGreatDoor.Lx (Toks)
open Go.Proofs.YtbgodajefaahdaaGreatDoor.Sm (St Lin cs)
open Go.Proofs.YtbgodajefaahdaaGreatDoor.Md (Box)
set_option maxHeartbeats 600000
theorem res_tct {P:Program} {fn:Func} {p q u:Tmp} (h:fn.results=#[.tmp p,.cell q 3,.tmp u]) (tmps:Array Value) (w:World) (k:Nat) (v:Value) (hq:tmps.getD q undef=.pointer (some ⟨k,0,none⟩)) (hk:(loadVar 3 ⟨k,0,none⟩).run P w=.ok v w) {a b:Value} (ea:tmps.getD p undef=a) (eb:tmps.getD u undef=b):(results fn tmps).run P w=.ok (.tuple #[a,v,b]) w:=by
 have hq':tmps[q]?.getD undef=.pointer (some ⟨k,0,none⟩):=by simpa using hq
 subst ea eb;simp[results,h,hq',asAddr,hk]
set_option maxRecDepth 100000 in
theorem catchS_pan (p:Addr) (x n:Int) (older:List PanicEntry) (w:World) (hc:w.cell? p=some (.int .i64 x)) (hz:w.frozen? p=false):CallsD Tryz.prog 79 #[.pointer (some p)] (.panicking ({ v:=.iface 137 (.agg #[.int .i64 n]),recovered:=false }::older)) w fun e u' w'=>e=.returned (.tuple #[])/\u'=.panicking ({ v:=.iface 137 (.agg #[.int .i64 n]),recovered:=true }::older)/\w'=(w.alloc (.cells #[.int .i64 n] 137)).setCell p (.int .i64 n):=by
 refine callsD_of_wpS Tryz.func79 rfl fun c₀ cs hu=>?_;have hta:(Instr.typeAssert (Value.iface 137 (Value.agg #[Value.int IntKind.i64 n])) 20 137 true).run Tryz.prog w=.ok (.tuple #[.agg #[.int .i64 n],.bool true]) w:=by kernel_rfl
 have hlt:p.block<w.heap.size:=by
  unfold World.cell? at hc
  split at hc
  · rename_i h;exact(Array.getElem?_eq_some_iff.1 h).1
  all_goals cases hc
 have hbb:(w.alloc (.cells #[.int .i64 n] 137)).heap[p.block]?=w.heap[p.block]?:=by
  show(w.heap.push _)[p.block]?=_
  rw[Array.getElem?_push,if_neg (by omega)]
 have h1:(w.alloc (.cells #[.int .i64 n] 137)).cell? ⟨w.heap.size,0,none⟩=some (.int .i64 n):=by rw[World.cell?_alloc_mark];rfl
 have h2:(w.alloc (.cells #[.int .i64 n] 137)).cell? p=some (.int .i64 x):=(World.cell?_of_block hbb).trans hc;have h3:(w.alloc (.cells #[.int .i64 n] 137)).frozen? p=false:=by unfold World.frozen? at hz ⊢; rw[hbb];exact hz
 apply wpS_seq
 apply wpS_region
 simp[wpOpsS,go_sem,recoverD,hu,Tryz.ntmps79,Exit.thenS,hta]
 apply wpS_seq
 apply wpS_region
 simp[wpOpsS,go_sem,Exit.thenS]
 refine wpS_cond (t:=true) (by simp[Act.eval,Array.replicate]) ?_;simp only[if_true]
 apply wpS_region
 simp[wpOpsS,go_sem,h1,h2,h3,bodyPostS,results,Tryz.results79]
set_option maxRecDepth 100000 in
theorem catchS_idle (p:Addr) (w:World):CallsD Tryz.prog 79 #[.pointer (some p)] .returning w fun e u' w'=>e=.returned (.tuple #[])/\u'=.returning/\w'=w.alloc (.cells #[.int .i64 0] 137):=by
 refine callsD_of_wpS Tryz.func79 rfl fun c₀ cs hu=>?_;have hta:(Instr.typeAssert Value.nilIface 20 137 true).run Tryz.prog w=.ok (.tuple #[.agg #[.int .i64 0],.bool false]) w:=by kernel_rfl
 apply wpS_seq
 apply wpS_region
 simp[wpOpsS,go_sem,recoverD,hu,Tryz.ntmps79,Exit.thenS,hta]
 apply wpS_seq
 apply wpS_region
 simp[wpOpsS,go_sem,Exit.thenS]
 refine wpS_cond (t:=false) (by simp[Act.eval,Array.replicate]) ?_;simp only[Bool.false_eq_true,if_false];refine wpS_of_wp (wp_skip ?_);cases c₀
 simp_all [bodyPostS,results,Tryz.results79]
set_option maxRecDepth 100000 in
theorem followS_any (f:FuncId) (m:P (List St)) (L:Lk) (w:World) (hf:∀(a:Array Value) (W:World),(callFunc f a).run Tryz.prog W=.ok (.enter f a) W) (ht:Toks w (some ⟨L.b,L.o,none⟩) L.m L.l) (hgd:Gd L.l) (hfew:L.l.length<=30000) (hC:∀g W,Rd L g L.l W->Calls Tryz.prog f #[.pointer (some ⟨g,0,none⟩)] W (PE g VLs (run m L.l) W)):Calls Tryz.prog 40 #[.func (.func f) #[] #[],.slice (some ⟨L.b,L.o,none⟩) L.m L.c] w (FO VLs (.slice none 0 0) (run m L.l) w):=by
 have HC:=hid hC;have HT:=hid ht;have HG:=hid hgd;have HF:=hid hfew;obtain⟨r,hr⟩:∃r,run m L.l=r:=⟨_,rfl⟩
 rw[hr] at HC ⊢;clear hC ht hgd hfew;have hmf:∀(fn:Fn) (first cap:Array Value) (w:World),(Instr.makeFunc fn first cap).run Tryz.prog w=.ok (.func fn first cap) w:=fun _ _ _ _=>rfl;go_enter_defers Tryz.func40,Tryz.ntmps40
 go_wp2_with fail;have hlb:L.b<w.heap.size:=by
  obtain⟨e1,e2,e3|⟨b',o',e,hlt,hc⟩⟩:=HT.out
  · have h1:=HG.out.ne;omega
  · cases e;exact hlt
 have N:=hid (Box.new (w:=w) (t:=3) (c:=#[.int .i64 0]));have hnl:=N.out.lt;refine(HC.out (w.heap.size+1) _ (rd_new rfl (by simp) (by simp;omega) HT.out.alloc HG.out HF.out)).mono ?_;rintro e w1 h1;rcases h1.cases with⟨x1,u1,v1,r1,rfl,b1,V1⟩|⟨u1,r1,rfl,b1⟩
 · have N1:=hid (box_at (w2:=w1) N.out qe);have B1:Hid (Eqv (fun k=>k<w.heap.size) w w1):=hid qe;have HK:=hid r1;obtain⟨p1,m1,c1,rfl,k1⟩:=V1;have K1:Hid (Lin (fun b=>w.heap.size<b) w1 x1 p1 m1):=hid (k1.mono fun b hb hlt=>by
    have hb':_<=b:=hb;simp at hb'
    omega)
   clear b1 h1 r1 k1 N;have q0:World.cell? _ ⟨_,0,none⟩=some (.int .i64 0):=N1.out.get rfl;have qz:∀i,World.frozen? _ ⟨_,i,none⟩=false:=fun i=>box_frz (i:=i) N1.out;go_wp2_with fail;refine leaves_cons (f:=79) (args:=#[.pointer (some ⟨w.heap.size,0,none⟩)]) (by simp) (by simp[go_sem]) ?_;refine(catchS_idle _ _).mono ?_;rintro e u' w'' ⟨rfl,rfl,rfl⟩;have BB:=B1.out;refine⟨_,res_tct rfl _ _ w.heap.size (.int .i64 0) rfl (load_int ?_) rfl rfl,?_⟩
   · have N4:=box_set (i:=0) (v:=.int .i64 0) N1.out;exact(box_at N4 qe).get (r:=0) rfl
   · have q:∀W,Eqv (fun b=>w.heap.size<b) w1 W->Lin (fun b=>w.heap.size<=b) W x1 p1 m1:=fun W q=>Sm.Lin.map q.size (fun b hb hlt=>⟨Nat.le_of_lt hb,q.block b hlt hb⟩) K1.out;exact FO.ok HK.out (eqv_below qe) ⟨p1,m1,c1,rfl,q _ qe⟩
 · have N1:=hid (box_at (w2:=w1) N.out qe);have B1:Hid (Eqv (fun k=>k<w.heap.size) w w1):=hid qe;have HK:=hid r1;clear b1 h1 r1 N;go_wp2_with fail;refine leaves_cons (f:=79) (args:=#[.pointer (some ⟨w.heap.size,0,none⟩)]) (by simp) (by simp[go_sem]) ?_;refine(catchS_pan _ 0 (hd u1).l [] _ (N1.out.get rfl) (box_frz N1.out)).mono ?_;rintro e u' w'' ⟨rfl,rfl,rfl⟩;refine⟨_,res_tct rfl _ _ w.heap.size (.int .i64 (hd u1).l) rfl (load_int ?_) rfl rfl,?_⟩
   · refine(box_set (i:=0) (v:=.int .i64 (hd u1).l) (box_at N1.out ?_)).get (r:=0) rfl;exact qe
   · exact FO.no HK.out (eqv_below (by have BB:=B1.out;exact qe))
end Go.Proofs.YtbgodajefaahdaaGreatDoor.Ps
