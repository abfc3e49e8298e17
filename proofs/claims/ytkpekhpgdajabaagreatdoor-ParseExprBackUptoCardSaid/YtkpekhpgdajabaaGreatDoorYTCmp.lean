/-
  Parts of this proof: The contract of the reader's comparison. The contracts of the reader's rules for expressi. The ends of texts. Reading results that lie in variables. The contracts of follow. The contract of follow for models.
-/
import Derived.Test.YtkpekhpgdajabaaGreatDoorYTXpr
open Go.Proofs.Tryz
open Go.World renaming cell?->ae,frozen?->ag
open Option renaming none->U,some->X
open Go.Proofs.Tryz renaming prog->af
open Go renaming bodyPost_ret->ah,World->ai,results_cell_row->aj,Value->ak,Calls->au
open Go.Lib renaming hid->A
set_option linter.unusedVariables false
set_option maxRecDepth 100000
set_option maxHeartbeats 2000000
open Go.Lib (hid)
namespace Go.Proofs.YtkpekhpgdajabaaGreatDoor
namespace Ps
open Go.RowKit
open Lx (Tk)
open Ex (Ex bX)
open Md (bU)
section
variable {L:Lk} {g:Nat} {t:List Tk} {m:P Ex}
theorem FI {p:Prop} (h:p:=by have hgB:¬w1.heap.size=g:=(by omega);exact qe):p:=h
theorem FJ {p:Prop} (h:p:=by have h1:=HT.out;rw[List.length_tail];omega):p:=h
theorem FM {p:Prop} (h:p:=by show w.heap.size<wa.heap.size;omega):p:=h
theorem agM (hm:Dn 1 m) (w:ai) (hR:Rd L g t w) (hC:∀W u,Rd L g u W->u.length<=t.length->au af 194 #[.pointer (X ⟨g,0,U⟩)] W (PO L g VX (run (sum m) u) W)):au af 166 #[.pointer (X ⟨g,0,U⟩)] w (PO L g VX (run (cmp m) t) w):=by
 have HC:=A hC;have HD:Hid (∀x u,run (sum m) t=.ok x u->u.length<=t.length):=A fun x u h=>by have:=((AL hm).out hR.gd h).2;omega
 clear hC hm;refine eQ hR ?_;clear hR;intro r HS HR HB hg;have Z:=pW w;go_enter func166,ntmps166;go_wp2_with fail;have hz0:=Z.out.lt;refine po HS HB (HC.out _ _ (HR.out.low qe) (Nat.le_refl _)) ?_;clear HS HB HR;rintro x1 u1 v1 w1 r1 HS b1 V1 HR HB;replace Z:=bV Z w1;have HT:=A (HD.out _ _ r1);clear b1 r1;clear HD;obtain⟨p1,m1,c1,rfl,k1⟩:=V1;have d_:=jS k1 w.heap.size;clear k1;dsimp only [cu];have Y:=A (bU.new (w:=w1) (t:=25) (c:=cu x1 p1 m1 c1));dsimp only [cu] at Y;have hz1:=Z.out.lt;go_wp2_with fail;refine ac HS HB (dD uf _ (HR.out.low qe) bR) ?_ ?_
 · clear HS HB HR;rintro w2-HS b2 HR HB;replace Z:=bV Z w2;replace Y:=bV Y w2;replace d_:=A (ja (w2:=w2) d_.out qe);clear b2;obtain⟨l0,l1,l2,l3,fz⟩:=dM Y.out;go_wp2_with fail;go_region_with (first|(go_at_call 116;refine(xg _ _ _ _ _).mono ?_;rintro e' wb ⟨rfl,hb4⟩;have q4:Bt g _ wb:=bS.of hb4;have sb:bU wb w.heap.size 25 #[.int .i64 0,.string ⟨#[]⟩,.int .i64 0,.slice U 0 0]:=cZ sa qe;have y0:ae wb ⟨w.heap.size,0,U⟩=X (.int .i64 0):=sb.get rfl;have y1:ae wb ⟨w.heap.size,1,U⟩=X (.string ⟨#[]⟩):=sb.get rfl;have y2:ae wb ⟨w.heap.size,2,U⟩=X (.int .i64 0):=sb.get rfl;have y3:ae wb ⟨w.heap.size,3,U⟩=X (.slice U 0 0):=sb.get rfl;have Cr:∀i,ag wb ⟨w.heap.size,i,U⟩=false:=fun i=>fA (i:=i) sb)|(refine(HC.out _ _ (HR.out.low qe) FJ).mono ?_;rintro e' wa h3;rcases h3.cases with⟨x3,u3,v3,r3,rfl,b3,V3,R3⟩|⟨u3,r3,rfl,b3⟩;rotate_left 1;(have bY:=HB.out;exact⟨rfl,PO.no (fw HS (by assumption)) qe⟩);obtain⟨p3,m3,c3,rfl,k3⟩:=V3;dsimp only [cu];have sa:bU wa w.heap.size 25 #[.int .i64 0,.string ⟨#[]⟩,.int .i64 0,.slice U 0 0]:=cZ (w2:=wa) Z.out qe;have s3:=cZ (w2:=wa) Y.out FI;have m0:ae wa ⟨w1.heap.size,0,U⟩=X (.int .i64 x1.o):=s3.get rfl;have sW:ae wa ⟨w1.heap.size,1,U⟩=X (.string x1.s):=s3.get rfl;have sZ:ae wa ⟨w1.heap.size,2,U⟩=X (.int .i64 x1.n):=s3.get rfl;have tu:ae wa ⟨w1.heap.size,3,U⟩=X (.slice p1 m1 c1):=s3.get rfl))
   all_goals
    have z2:=Y.out.lt;have HS2:=eY HS r3;have rY:w2.heap.size<=wa.heap.size:=b3.size;have KE:bX (fun b=>w.heap.size<b) wa x1 p1 m1:=ja (w2:=wa) d_.out qe;have KX:bX (fun b=>w.heap.size<b) wa x3 p3 m3:=k3.mono fun b hb hlt=>by
     have hb2:w2.heap.size<=b:=hb;omega
    have KN:=wS (c:=c1) (d:=c3) 14 KE KX FM;have K4:Hid (bX (fun b=>w.heap.size<b) wb (dZ 14 x1 x3) (X ⟨wa.heap.size,0,U⟩) 2):=A (Ex.bX.map hb4.size (fun b hb hlt=>⟨hb,hb4.block b hlt⟩) _ KN);replace Z:=A sb;have R4:Rd L g u3 wb:=R3.low (zL hb4);replace HB:=eu HB wb;replace HR:=A R4;clear KE KX KN rY r3 k3 h3 R3 R4 b3 hb4 q4 sb sa s3 m0 sW sZ tu l0 l1 l2 l3 fz;go_wp2_with fail;have bY:=HB.out;refine ah (v:=.agg (cu (dZ 14 x1 x3) (X ⟨wa.heap.size,0,U⟩) 2 2)) ?_ rfl (PO.ok (dz HS2) qe ⟨(X ⟨wa.heap.size,0,U⟩),2,2,rfl,?_⟩ (HR.out.low qe))
    · exact aj rfl _ _ w.heap.size 25 _ (0,0) _ rfl (qK Z.out rfl) underlying25 rfl dx
    · have KK:=K4.out;exact jI KK qe
 clear HS HB HR;rintro w2-HS b2 HR HB;replace Z:=bV Z w2;replace Y:=bV Y w2;replace d_:=A (ja (w2:=w2) d_.out qe);clear b2;go_wp2_with fail;refine ac HS HB (dD DY _ (HR.out.low qe) bR) ?_ ?_
 · clear HS HB HR;rintro w4-HS b4 HR HB;replace Z:=bV Z w4;replace Y:=bV Y w4;replace d_:=A (ja (w2:=w4) d_.out qe);clear b4;obtain⟨l0,l1,l2,l3,fz⟩:=dM Y.out;go_wp2_with fail;go_region_with (first|(go_at_call 116;refine(xg _ _ _ _ _).mono ?_;rintro e' wb ⟨rfl,hb4⟩;have q4:Bt g _ wb:=bS.of hb4;have sb:bU wb w.heap.size 25 #[.int .i64 0,.string ⟨#[]⟩,.int .i64 0,.slice U 0 0]:=cZ sa qe;have y0:ae wb ⟨w.heap.size,0,U⟩=X (.int .i64 0):=sb.get rfl;have y1:ae wb ⟨w.heap.size,1,U⟩=X (.string ⟨#[]⟩):=sb.get rfl;have y2:ae wb ⟨w.heap.size,2,U⟩=X (.int .i64 0):=sb.get rfl;have y3:ae wb ⟨w.heap.size,3,U⟩=X (.slice U 0 0):=sb.get rfl;have Cr:∀i,ag wb ⟨w.heap.size,i,U⟩=false:=fun i=>fA (i:=i) sb)|(refine(HC.out _ _ (HR.out.low qe) FJ).mono ?_;rintro e' wa h3;rcases h3.cases with⟨x3,u3,v3,r3,rfl,b3,V3,R3⟩|⟨u3,r3,rfl,b3⟩;rotate_left 1;(have bY:=HB.out;exact⟨rfl,PO.no (fw HS (by assumption)) qe⟩);obtain⟨p3,m3,c3,rfl,k3⟩:=V3;dsimp only [cu];have sa:bU wa w.heap.size 25 #[.int .i64 0,.string ⟨#[]⟩,.int .i64 0,.slice U 0 0]:=cZ (w2:=wa) Z.out qe;have s3:=cZ (w2:=wa) Y.out FI;have m0:ae wa ⟨w1.heap.size,0,U⟩=X (.int .i64 x1.o):=s3.get rfl;have sW:ae wa ⟨w1.heap.size,1,U⟩=X (.string x1.s):=s3.get rfl;have sZ:ae wa ⟨w1.heap.size,2,U⟩=X (.int .i64 x1.n):=s3.get rfl;have tu:ae wa ⟨w1.heap.size,3,U⟩=X (.slice p1 m1 c1):=s3.get rfl))
   all_goals
    have z2:=Y.out.lt;have HS2:=eY HS r3;have rY:w4.heap.size<=wa.heap.size:=b3.size;have KE:bX (fun b=>w.heap.size<b) wa x1 p1 m1:=ja (w2:=wa) d_.out qe;have KX:bX (fun b=>w.heap.size<b) wa x3 p3 m3:=k3.mono fun b hb hlt=>by
     have hb2:w4.heap.size<=b:=hb;omega
    have KN:=wS (c:=c1) (d:=c3) 15 KE KX FM;have K4:Hid (bX (fun b=>w.heap.size<b) wb (dZ 15 x1 x3) (X ⟨wa.heap.size,0,U⟩) 2):=A (Ex.bX.map hb4.size (fun b hb hlt=>⟨hb,hb4.block b hlt⟩) _ KN);replace Z:=A sb;have R4:Rd L g u3 wb:=R3.low (zL hb4);replace HB:=eu HB wb;replace HR:=A R4;clear KE KX KN rY r3 k3 h3 R3 R4 b3 hb4 q4 sb sa s3 m0 sW sZ tu l0 l1 l2 l3 fz;go_wp2_with fail;have bY:=HB.out;refine ah (v:=.agg (cu (dZ 15 x1 x3) (X ⟨wa.heap.size,0,U⟩) 2 2)) ?_ rfl (PO.ok (dz HS2) qe ⟨(X ⟨wa.heap.size,0,U⟩),2,2,rfl,?_⟩ (HR.out.low qe))
    · exact aj rfl _ _ w.heap.size 25 _ (0,0) _ rfl (qK Z.out rfl) underlying25 rfl dx
    · have KK:=K4.out;exact jI KK qe
 clear HS HB HR;rintro w4-HS b4 HR HB;replace Z:=bV Z w4;replace Y:=bV Y w4;replace d_:=A (ja (w2:=w4) d_.out qe);clear b4;go_wp2_with fail;refine ac HS HB (dD DX _ (HR.out.low qe) bR) ?_ ?_
 · clear HS HB HR;rintro w5-HS b5 HR HB;replace Z:=bV Z w5;replace Y:=bV Y w5;replace d_:=A (ja (w2:=w5) d_.out qe);clear b5;obtain⟨l0,l1,l2,l3,fz⟩:=dM Y.out;go_wp2_with fail;go_region_with (first|(go_at_call 116;refine(xg _ _ _ _ _).mono ?_;rintro e' wb ⟨rfl,hb4⟩;have q4:Bt g _ wb:=bS.of hb4;have sb:bU wb w.heap.size 25 #[.int .i64 0,.string ⟨#[]⟩,.int .i64 0,.slice U 0 0]:=cZ sa qe;have y0:ae wb ⟨w.heap.size,0,U⟩=X (.int .i64 0):=sb.get rfl;have y1:ae wb ⟨w.heap.size,1,U⟩=X (.string ⟨#[]⟩):=sb.get rfl;have y2:ae wb ⟨w.heap.size,2,U⟩=X (.int .i64 0):=sb.get rfl;have y3:ae wb ⟨w.heap.size,3,U⟩=X (.slice U 0 0):=sb.get rfl;have Cr:∀i,ag wb ⟨w.heap.size,i,U⟩=false:=fun i=>fA (i:=i) sb)|(refine(HC.out _ _ (HR.out.low qe) FJ).mono ?_;rintro e' wa h3;rcases h3.cases with⟨x3,u3,v3,r3,rfl,b3,V3,R3⟩|⟨u3,r3,rfl,b3⟩;rotate_left 1;(have bY:=HB.out;exact⟨rfl,PO.no (fw HS (by assumption)) qe⟩);obtain⟨p3,m3,c3,rfl,k3⟩:=V3;dsimp only [cu];have sa:bU wa w.heap.size 25 #[.int .i64 0,.string ⟨#[]⟩,.int .i64 0,.slice U 0 0]:=cZ (w2:=wa) Z.out qe;have s3:=cZ (w2:=wa) Y.out FI;have m0:ae wa ⟨w1.heap.size,0,U⟩=X (.int .i64 x1.o):=s3.get rfl;have sW:ae wa ⟨w1.heap.size,1,U⟩=X (.string x1.s):=s3.get rfl;have sZ:ae wa ⟨w1.heap.size,2,U⟩=X (.int .i64 x1.n):=s3.get rfl;have tu:ae wa ⟨w1.heap.size,3,U⟩=X (.slice p1 m1 c1):=s3.get rfl))
   all_goals
    have z2:=Y.out.lt;have HS2:=eY HS r3;have rY:w5.heap.size<=wa.heap.size:=b3.size;have KE:bX (fun b=>w.heap.size<b) wa x1 p1 m1:=ja (w2:=wa) d_.out qe;have KX:bX (fun b=>w.heap.size<b) wa x3 p3 m3:=k3.mono fun b hb hlt=>by
     have hb2:w5.heap.size<=b:=hb;omega
    have KN:=wS (c:=c1) (d:=c3) 16 KE KX FM;have K4:Hid (bX (fun b=>w.heap.size<b) wb (dZ 16 x1 x3) (X ⟨wa.heap.size,0,U⟩) 2):=A (Ex.bX.map hb4.size (fun b hb hlt=>⟨hb,hb4.block b hlt⟩) _ KN);replace Z:=A sb;have R4:Rd L g u3 wb:=R3.low (zL hb4);replace HB:=eu HB wb;replace HR:=A R4;clear KE KX KN rY r3 k3 h3 R3 R4 b3 hb4 q4 sb sa s3 m0 sW sZ tu l0 l1 l2 l3 fz;go_wp2_with fail;have bY:=HB.out;refine ah (v:=.agg (cu (dZ 16 x1 x3) (X ⟨wa.heap.size,0,U⟩) 2 2)) ?_ rfl (PO.ok (dz HS2) qe ⟨(X ⟨wa.heap.size,0,U⟩),2,2,rfl,?_⟩ (HR.out.low qe))
    · exact aj rfl _ _ w.heap.size 25 _ (0,0) _ rfl (qK Z.out rfl) underlying25 rfl dx
    · have KK:=K4.out;exact jI KK qe
 clear HS HB HR;rintro w5-HS b5 HR HB;replace Z:=bV Z w5;replace Y:=bV Y w5;replace d_:=A (ja (w2:=w5) d_.out qe);clear b5;go_wp2_with fail;refine ac HS HB (dD DW _ (HR.out.low qe) bR) ?_ ?_
 · clear HS HB HR;rintro w6-HS b6 HR HB;replace Z:=bV Z w6;replace Y:=bV Y w6;replace d_:=A (ja (w2:=w6) d_.out qe);clear b6;obtain⟨l0,l1,l2,l3,fz⟩:=dM Y.out;go_wp2_with fail;go_region_with (first|(go_at_call 116;refine(xg _ _ _ _ _).mono ?_;rintro e' wb ⟨rfl,hb4⟩;have q4:Bt g _ wb:=bS.of hb4;have sb:bU wb w.heap.size 25 #[.int .i64 0,.string ⟨#[]⟩,.int .i64 0,.slice U 0 0]:=cZ sa qe;have y0:ae wb ⟨w.heap.size,0,U⟩=X (.int .i64 0):=sb.get rfl;have y1:ae wb ⟨w.heap.size,1,U⟩=X (.string ⟨#[]⟩):=sb.get rfl;have y2:ae wb ⟨w.heap.size,2,U⟩=X (.int .i64 0):=sb.get rfl;have y3:ae wb ⟨w.heap.size,3,U⟩=X (.slice U 0 0):=sb.get rfl;have Cr:∀i,ag wb ⟨w.heap.size,i,U⟩=false:=fun i=>fA (i:=i) sb)|(refine(HC.out _ _ (HR.out.low qe) FJ).mono ?_;rintro e' wa h3;rcases h3.cases with⟨x3,u3,v3,r3,rfl,b3,V3,R3⟩|⟨u3,r3,rfl,b3⟩;rotate_left 1;(have bY:=HB.out;exact⟨rfl,PO.no (fw HS (by assumption)) qe⟩);obtain⟨p3,m3,c3,rfl,k3⟩:=V3;dsimp only [cu];have sa:bU wa w.heap.size 25 #[.int .i64 0,.string ⟨#[]⟩,.int .i64 0,.slice U 0 0]:=cZ (w2:=wa) Z.out qe;have s3:=cZ (w2:=wa) Y.out FI;have m0:ae wa ⟨w1.heap.size,0,U⟩=X (.int .i64 x1.o):=s3.get rfl;have sW:ae wa ⟨w1.heap.size,1,U⟩=X (.string x1.s):=s3.get rfl;have sZ:ae wa ⟨w1.heap.size,2,U⟩=X (.int .i64 x1.n):=s3.get rfl;have tu:ae wa ⟨w1.heap.size,3,U⟩=X (.slice p1 m1 c1):=s3.get rfl))
   all_goals
    have z2:=Y.out.lt;have HS2:=eY HS r3;have rY:w6.heap.size<=wa.heap.size:=b3.size;have KE:bX (fun b=>w.heap.size<b) wa x1 p1 m1:=ja (w2:=wa) d_.out qe;have KX:bX (fun b=>w.heap.size<b) wa x3 p3 m3:=k3.mono fun b hb hlt=>by
     have hb2:w6.heap.size<=b:=hb;omega
    have KN:=wS (c:=c1) (d:=c3) 17 KE KX FM;have K4:Hid (bX (fun b=>w.heap.size<b) wb (dZ 17 x1 x3) (X ⟨wa.heap.size,0,U⟩) 2):=A (Ex.bX.map hb4.size (fun b hb hlt=>⟨hb,hb4.block b hlt⟩) _ KN);replace Z:=A sb;have R4:Rd L g u3 wb:=R3.low (zL hb4);replace HB:=eu HB wb;replace HR:=A R4;clear KE KX KN rY r3 k3 h3 R3 R4 b3 hb4 q4 sb sa s3 m0 sW sZ tu l0 l1 l2 l3 fz;go_wp2_with fail;have bY:=HB.out;refine ah (v:=.agg (cu (dZ 17 x1 x3) (X ⟨wa.heap.size,0,U⟩) 2 2)) ?_ rfl (PO.ok (dz HS2) qe ⟨(X ⟨wa.heap.size,0,U⟩),2,2,rfl,?_⟩ (HR.out.low qe))
    · exact aj rfl _ _ w.heap.size 25 _ (0,0) _ rfl (qK Z.out rfl) underlying25 rfl dx
    · have KK:=K4.out;exact jI KK qe
 clear HS HB HR;rintro w6-HS b6 HR HB;replace Z:=bV Z w6;replace Y:=bV Y w6;replace d_:=A (ja (w2:=w6) d_.out qe);clear b6;go_wp2_with fail;refine ac HS HB (dD DV _ (HR.out.low qe) bR) ?_ ?_
 · clear HS HB HR;rintro w7-HS b7 HR HB;replace Z:=bV Z w7;replace Y:=bV Y w7;replace d_:=A (ja (w2:=w7) d_.out qe);clear b7;obtain⟨l0,l1,l2,l3,fz⟩:=dM Y.out;go_wp2_with fail;go_region_with (first|(go_at_call 116;refine(xg _ _ _ _ _).mono ?_;rintro e' wb ⟨rfl,hb4⟩;have q4:Bt g _ wb:=bS.of hb4;have sb:bU wb w.heap.size 25 #[.int .i64 0,.string ⟨#[]⟩,.int .i64 0,.slice U 0 0]:=cZ sa qe;have y0:ae wb ⟨w.heap.size,0,U⟩=X (.int .i64 0):=sb.get rfl;have y1:ae wb ⟨w.heap.size,1,U⟩=X (.string ⟨#[]⟩):=sb.get rfl;have y2:ae wb ⟨w.heap.size,2,U⟩=X (.int .i64 0):=sb.get rfl;have y3:ae wb ⟨w.heap.size,3,U⟩=X (.slice U 0 0):=sb.get rfl;have Cr:∀i,ag wb ⟨w.heap.size,i,U⟩=false:=fun i=>fA (i:=i) sb)|(refine(HC.out _ _ (HR.out.low qe) FJ).mono ?_;rintro e' wa h3;rcases h3.cases with⟨x3,u3,v3,r3,rfl,b3,V3,R3⟩|⟨u3,r3,rfl,b3⟩;rotate_left 1;(have bY:=HB.out;exact⟨rfl,PO.no (fw HS (by assumption)) qe⟩);obtain⟨p3,m3,c3,rfl,k3⟩:=V3;dsimp only [cu];have sa:bU wa w.heap.size 25 #[.int .i64 0,.string ⟨#[]⟩,.int .i64 0,.slice U 0 0]:=cZ (w2:=wa) Z.out qe;have s3:=cZ (w2:=wa) Y.out FI;have m0:ae wa ⟨w1.heap.size,0,U⟩=X (.int .i64 x1.o):=s3.get rfl;have sW:ae wa ⟨w1.heap.size,1,U⟩=X (.string x1.s):=s3.get rfl;have sZ:ae wa ⟨w1.heap.size,2,U⟩=X (.int .i64 x1.n):=s3.get rfl;have tu:ae wa ⟨w1.heap.size,3,U⟩=X (.slice p1 m1 c1):=s3.get rfl))
   all_goals
    have z2:=Y.out.lt;have HS2:=eY HS r3;have rY:w7.heap.size<=wa.heap.size:=b3.size;have KE:bX (fun b=>w.heap.size<b) wa x1 p1 m1:=ja (w2:=wa) d_.out qe;have KX:bX (fun b=>w.heap.size<b) wa x3 p3 m3:=k3.mono fun b hb hlt=>by
     have hb2:w7.heap.size<=b:=hb;omega
    have KN:=wS (c:=c3) (d:=c1) 16 KX KE FM;have K4:Hid (bX (fun b=>w.heap.size<b) wb (dZ 16 x3 x1) (X ⟨wa.heap.size,0,U⟩) 2):=A (Ex.bX.map hb4.size (fun b hb hlt=>⟨hb,hb4.block b hlt⟩) _ KN);replace Z:=A sb;have R4:Rd L g u3 wb:=R3.low (zL hb4);replace HB:=eu HB wb;replace HR:=A R4;clear KE KX KN rY r3 k3 h3 R3 R4 b3 hb4 q4 sb sa s3 m0 sW sZ tu l0 l1 l2 l3 fz;go_wp2_with fail;have bY:=HB.out;refine ah (v:=.agg (cu (dZ 16 x3 x1) (X ⟨wa.heap.size,0,U⟩) 2 2)) ?_ rfl (PO.ok (dz HS2) qe ⟨(X ⟨wa.heap.size,0,U⟩),2,2,rfl,?_⟩ (HR.out.low qe))
    · exact aj rfl _ _ w.heap.size 25 _ (0,0) _ rfl (qK Z.out rfl) underlying25 rfl dx
    · have KK:=K4.out;exact jI KK qe
 clear HS HB HR;rintro w7-HS b7 HR HB;replace Z:=bV Z w7;replace Y:=bV Y w7;replace d_:=A (ja (w2:=w7) d_.out qe);clear b7;go_wp2_with fail;refine ac HS HB (dD DU _ (HR.out.low qe) bR) ?_ ?_
 · clear HS HB HR;rintro w8-HS b8 HR HB;replace Z:=bV Z w8;replace Y:=bV Y w8;replace d_:=A (ja (w2:=w8) d_.out qe);clear b8;obtain⟨l0,l1,l2,l3,fz⟩:=dM Y.out;go_wp2_with fail;go_region_with (first|(go_at_call 116;refine(xg _ _ _ _ _).mono ?_;rintro e' wb ⟨rfl,hb4⟩;have q4:Bt g _ wb:=bS.of hb4;have sb:bU wb w.heap.size 25 #[.int .i64 0,.string ⟨#[]⟩,.int .i64 0,.slice U 0 0]:=cZ sa qe;have y0:ae wb ⟨w.heap.size,0,U⟩=X (.int .i64 0):=sb.get rfl;have y1:ae wb ⟨w.heap.size,1,U⟩=X (.string ⟨#[]⟩):=sb.get rfl;have y2:ae wb ⟨w.heap.size,2,U⟩=X (.int .i64 0):=sb.get rfl;have y3:ae wb ⟨w.heap.size,3,U⟩=X (.slice U 0 0):=sb.get rfl;have Cr:∀i,ag wb ⟨w.heap.size,i,U⟩=false:=fun i=>fA (i:=i) sb)|(refine(HC.out _ _ (HR.out.low qe) FJ).mono ?_;rintro e' wa h3;rcases h3.cases with⟨x3,u3,v3,r3,rfl,b3,V3,R3⟩|⟨u3,r3,rfl,b3⟩;rotate_left 1;(have bY:=HB.out;exact⟨rfl,PO.no (fw HS (by assumption)) qe⟩);obtain⟨p3,m3,c3,rfl,k3⟩:=V3;dsimp only [cu];have sa:bU wa w.heap.size 25 #[.int .i64 0,.string ⟨#[]⟩,.int .i64 0,.slice U 0 0]:=cZ (w2:=wa) Z.out qe;have s3:=cZ (w2:=wa) Y.out FI;have m0:ae wa ⟨w1.heap.size,0,U⟩=X (.int .i64 x1.o):=s3.get rfl;have sW:ae wa ⟨w1.heap.size,1,U⟩=X (.string x1.s):=s3.get rfl;have sZ:ae wa ⟨w1.heap.size,2,U⟩=X (.int .i64 x1.n):=s3.get rfl;have tu:ae wa ⟨w1.heap.size,3,U⟩=X (.slice p1 m1 c1):=s3.get rfl))
   all_goals
    have z2:=Y.out.lt;have HS2:=eY HS r3;have rY:w8.heap.size<=wa.heap.size:=b3.size;have KE:bX (fun b=>w.heap.size<b) wa x1 p1 m1:=ja (w2:=wa) d_.out qe;have KX:bX (fun b=>w.heap.size<b) wa x3 p3 m3:=k3.mono fun b hb hlt=>by
     have hb2:w8.heap.size<=b:=hb;omega
    have KN:=wS (c:=c3) (d:=c1) 17 KX KE FM;have K4:Hid (bX (fun b=>w.heap.size<b) wb (dZ 17 x3 x1) (X ⟨wa.heap.size,0,U⟩) 2):=A (Ex.bX.map hb4.size (fun b hb hlt=>⟨hb,hb4.block b hlt⟩) _ KN);replace Z:=A sb;have R4:Rd L g u3 wb:=R3.low (zL hb4);replace HB:=eu HB wb;replace HR:=A R4;clear KE KX KN rY r3 k3 h3 R3 R4 b3 hb4 q4 sb sa s3 m0 sW sZ tu l0 l1 l2 l3 fz;go_wp2_with fail;have bY:=HB.out;refine ah (v:=.agg (cu (dZ 17 x3 x1) (X ⟨wa.heap.size,0,U⟩) 2 2)) ?_ rfl (PO.ok (dz HS2) qe ⟨(X ⟨wa.heap.size,0,U⟩),2,2,rfl,?_⟩ (HR.out.low qe))
    · exact aj rfl _ _ w.heap.size 25 _ (0,0) _ rfl (qK Z.out rfl) underlying25 rfl dx
    · have KK:=K4.out;exact jI KK qe
 clear HS HB HR;rintro w8-HS b8 HR HB;replace Z:=bV Z w8;replace Y:=bV Y w8;replace d_:=A (ja (w2:=w8) d_.out qe);clear b8;exact adV
end
end Ps
namespace Ps
open Go.RowKit
open Lx (Tk)
open Ex (Ex bX)
section
variable {L:Lk} {g:Nat} {t:List Tk} {n:Nat}
theorem akt (hX:XC L g n) (w:ai) (hR:Rd L g t w) (hn:t.length<=n) (hC:∀W u,Rd L g u W->u.length<=t.length->au af 220 #[.pointer (X ⟨g,0,U⟩)] W (PO L g VX (run (fF (n+1)) u) W)):au af 117 #[.pointer (X ⟨g,0,U⟩)] w (PO L g VX (run (fN (n+1)) t) w):=by
 have HX:=A hX;have HC:Hid (∀W u,Rd L g u W->u.length<=t.length->au af 194 #[.pointer (X ⟨g,0,U⟩)] W (PO L g VX (run (sum (fF (n+1))) u) W)):=A fun W u hW hu=>an4 (WW _) W hW fun W' u' hW' hu'=>hC W' u' hW' (Nat.le_trans hu' hu);have HD:Hid (is kU t=true->t.tail.length<n):=A fun h=>by have h2:=hR.gd.ne;rw[List.length_tail];omega
 rw[Qq];clear hX hn hC;refine eQ hR ?_;clear hR;intro r HS HR HB hg;have Z:=pW w;go_enter func117,ntmps117;go_wp2_with fail;refine ac HS HB (dD kU _ (HR.out.low qe) bR) ?_ ?_
 · clear HS HB HR;rintro w1 i1 HS b1 HR HB;have HT:=A (HD.out i1);replace Z:=bV Z w1;clear b1 i1;go_wp2_with fail;have hz1:=Z.out.lt;refine po HS HB (HX.out.xn _ _ (HR.out.low qe) HT.out) ?_;clear HS HB HR;rintro x2 u2 v2 w2-HS b2 ⟨p2,m2,c2,rfl,k2⟩ HR HB;replace Z:=bV Z w2;clear b2;have jf:=jS k2 w.heap.size;clear k2;dsimp only [cu];go_wp2_with fail;refine gi HR HB (xg _ _ _ _ _) ?_;clear HR HB;rintro w3 b3 hb3 HR HB;have hzz:=Z.out.lt;have KN:Hid (bX (fun b=>w.heap.size<b) w3 (jq 6 x2) (X ⟨w2.heap.size,0,U⟩) 1):=A (Ex.bX.map hb3.size (fun b hb hlt=>⟨hb,hb3.block b hlt⟩) _ (H9 (c:=c2) 6 jf.out hzz));replace Z:=bV Z w3;clear b3 hb3;obtain⟨y0,y1,y2,y3,fz⟩:=dM Z.out;go_wp2_with fail;have bY:=HB.out;refine ah (v:=.agg (cu (jq 6 x2) (X ⟨w2.heap.size,0,U⟩) 1 1)) ?_ rfl (PO.ok (dz HS) qe ⟨(X ⟨w2.heap.size,0,U⟩),1,1,rfl,?_⟩ (HR.out.low qe))
   · exact Al
   · exact Js
 clear HS HB HR;rintro w1-HS b1 HR HB;replace Z:=bV Z w1;clear b1;go_wp2_with fail;have hz2:=Z.out.lt;refine pl HS HB (agM (WW _) _ (HR.out.low qe) HC.out) ?_;clear HB HR;rintro x2 u2 v2 w2-HL2 b2 ⟨p2,m2,c2,rfl,k2⟩ HR HB;replace Z:=bV Z w2;clear b2;have jf:=jS k2 w.heap.size;clear k2;dsimp only [cu];obtain⟨y0,y1,y2,y3,fz⟩:=dM Z.out;go_wp2_with fail;have bY:=HB.out;refine ah (v:=.agg (cu (x2) (p2) m2 c2)) ?_ rfl (PO.ok HL2.out qe ⟨(p2),m2,c2,rfl,?_⟩ (HR.out.low qe))
 · exact Al
 · have KK:=jf.out;exact jI KK qe
theorem ack (L:Lk) (g:Nat):∀n,XC L g n
 | 0=>⟨fun W u _ h=>absurd h (Nat.not_lt_zero _),fun W u _ h=>absurd h (Nat.not_lt_zero _),fun W u _ h=>absurd h (Nat.not_lt_zero _)⟩
 | n+1=>by
  have hX:=ack L g n;have hF:∀W u,Rd L g u W->u.length<=n->au af 220 #[.pointer (X ⟨g,0,U⟩)] W (PO L g VX (run (fF (n+1)) u) W):=fun W u hR hn=>by rw[G5];exact ah5 hX (ah3 n) W hR hn
  have hN:∀W u,Rd L g u W->u.length<=n->au af 117 #[.pointer (X ⟨g,0,U⟩)] W (PO L g VX (run (fN (n+1)) u) W):=fun W u hR hn=>akt hX W hR hn fun W' u' hR' hu'=>hF W' u' hR' (Nat.le_trans hu' hn);have hE:∀W u,Rd L g u W->u.length<=n->au af 39 #[.pointer (X ⟨g,0,U⟩)] W (PO L g VX (run (fE (n+1)) u) W):=fun W u hR hn=>by rw[X8];exact ah2 (ag7 _) W hR fun W' u' hR' hu'=>hN W' u' hR' (Nat.le_trans hu' hn)
  exact⟨fun W u hR h=>hE W u hR bT,fun W u hR h=>hN W u hR bT,fun W u hR h=>hF W u hR bT⟩
theorem Af (w:ai) (hR:Rd L g t w):au af 39 #[.pointer (X ⟨g,0,U⟩)] w (PO L g VX (run ky t) w):=(ack L g FU).xe w t hR (by have:=hR.small;unfold FU;omega)
end
end Ps
namespace Ps
open Ps.P (len)
open Go.RowKit
open Lx (Tk)
open Md (bU)
def TZ (g:Nat) (k:Int) (t:List Tk) (w:ai) (e:Ending) (w':ai):Prop:=
 Bt g w w'/\(((hd t).k=k/\e=.returned (tv (hd t)))∨(¬(hd t).k=k/\e=.panicked (tC (hd t).l)))
def PE {α:Type} (g:Nat) (V:Nat->ai->α->ak->Prop) (r:R α) (w:ai) (e:Ending) (w':ai):Prop:=
 Bt g w w'/\match r with
  | .ok x u=>∃v,e=.returned v/\V w.heap.size w' x v
  | .no u=>e=.panicked (tC (hd u).l)
section
variable {α:Type} {g:Nat} {V:Nat->ai->α->ak->Prop} {r:R α} {w w':ai} {e:Ending} {x:α} {u:List Tk} {v:ak}
theorem PE.ok (hr:r=.ok x u) (hb:Bt g w w') (hV:V w.heap.size w' x v):PE g V r w (.returned v) w':=by subst hr;exact⟨hb,v,rfl,hV⟩
theorem PE.no (hr:r=.no u) (hb:Bt g w w'):PE g V r w (.panicked (tC (hd u).l)) w':=by subst hr;exact⟨hb,rfl⟩
theorem PE.cases (h:PE g V r w e w'):(∃x u v,r=.ok x u/\e=.returned v/\Bt g w w'/\V w.heap.size w' x v)∨(∃u,r=.no u/\e=.panicked (tC (hd u).l)/\Bt g w w'):=by
 obtain⟨hb,h⟩:=h
 cases r with
 | ok x u=>obtain⟨v,h1,h2⟩:=h;exact .inl ⟨x,u,v,rfl,h1,hb,h2⟩
 | no u=>exact .inr ⟨u,rfl,h,hb⟩
end
section
variable {L:Lk} {g:Nat} {t:List Tk}
theorem an_ (k:Int) (w:ai) (hR:Rd L g t w):au af 71 #[.pointer (X ⟨g,0,U⟩),.int .i64 k] w (TZ g k t w):=by
 have C1:=A (fun W (hW:Below w.heap.size w W)=>yU W (hR.low (bS.of hW)));have C2:=A (fun W (hW:Below w.heap.size w W)=>BG W (hR.low (bS.of hW)));have hg:=hR.blk;have HR:=A hR;obtain⟨l1,l2,l3⟩:=hR.len;have l4:=hR.few;obtain⟨j,hj⟩:∃j,L.at t=j:=⟨_,rfl⟩
 obtain⟨x,hx⟩:∃x,hd t=x:=⟨_,rfl⟩
 unfold tv at C1;rw[hx] at C1 C2;have HX:=A hx;have HJ:=A hj;by_cases h:x.k=k
 · have hb:(x.k != k)=false:=by simp[h]
   have hw:IntKind.i64.wrap ((j:Int)+1)=(j:Int)+1:=by rw[IntKind.wrap_i64];omega
   have HK:=A h;clear hR l1 l2 l3 l4 hx hj h;go_enter func71,ntmps71;go_wp2_with fail;refine(C1.out _ bl).mono ?_;rintro e w1 ⟨rfl,hb1⟩;have hB1:Below w.heap.size w w1:=bl;have b4:bU w1 w.heap.size 125 _:=bU.new.on hb1;have b5:bU (w1.alloc (.cells #[.int .i64 x.k,.string x.t,.int .i64 x.n,.int .i64 x.l] 125)) w1.heap.size 125 _:=bU.new;have hs1:=b4.lt;have r1:Rd L g t (w1.alloc (.cells #[.int .i64 x.k,.string x.t,.int .i64 x.n,.int .i64 x.l] 125)):=HR.out.low (bS.of bl);have c1:=r1.c1;rw[HJ.out] at c1;have f1:=r1.rJ (i:=1);obtain⟨B,hB⟩:∃B,(w1.alloc (.cells #[.int .i64 x.k,.string x.t,.int .i64 x.n,.int .i64 x.l] 125)).setCell ⟨g,1,U⟩ (.int .i64 ((j:Int)+1))=B:=⟨_,rfl⟩
   have e1:Bt g (w1.alloc (.cells #[.int .i64 x.k,.string x.t,.int .i64 x.n,.int .i64 x.l] 125)) B:=by rw[← hB];exact Pe
   have d5:bU B w1.heap.size 125 _:=eT b5 e1 bT;have d4:bU B w.heap.size 125 _:=eT (b4.on bl) e1 bT;have l0:=d5.get (r:=0) rfl;have l1:=d5.get (r:=1) rfl;have l2:=d5.get (r:=2) rfl;have l3:=d5.get (r:=3) rfl;have p0:=d4.get (r:=0) rfl;have p1:=d4.get (r:=1) rfl;have p2:=d4.get (r:=2) rfl;have p3:=d4.get (r:=3) rfl;have fz:∀i,B.frozen? ⟨w.heap.size,i,U⟩=false:=fun i=>fA d4;have D4:=A d4;have HE:=A e1;have HB1:=A hB1;clear e1 r1 d5 d4 b5 b4 hB1 hb1;go_wp2_with fail;have b6:=qK (a:=.int .i64 x.k) (b:=.string x.t) (c:=.int .i64 x.n) (d:=.int .i64 x.l) D4.out rfl;have bY:=HB1.out;have iX:=HE.out;refine ah (v:=tv x) ?_ rfl ⟨?_,.inl ⟨by rw[HX.out,HK.out],by rw[HX.out]⟩⟩
   · exact aj rfl _ _ w.heap.size 125 _ (0,0) _ rfl b6 underlying125 rfl dx
   · have q:Bt g w w1:=bS.of bY;exact qe
 · exact zzd
theorem Ql (w:ai) (hR:Rd L g t w):au af 41 #[.pointer (X ⟨g,0,U⟩)] w (PE g VU (run qN t) w):=by
 have HR:=A hR;have HN:Hid ((∀h:(hd t).k=0,run qN t=.ok () t.tail)/\(¬(hd t).k=0->run qN t=.no t)):=A ⟨fun h=>by unfold qN;rw[dK (yT h)];rfl,fun h=>by unfold qN;rw[iq (DJ h)]⟩;clear hR;obtain⟨r,hr⟩:∃r,run qN t=r:=⟨_,rfl⟩
 rw[hr] at HN ⊢;clear hr;go_enter func41,ntmps41;go_wp2_with fail;refine(an_ 0 _ HR.out).mono ?_;rintro e w1 ⟨hb,⟨hk,rfl⟩|⟨hk,rfl⟩⟩
 · have HB:=A hb;have HK:=A (HN.out.1 hk);clear hb hk;unfold tv;go_wp2_with fail
   (first|go_end0|refine ah (results_none rfl _ _ _) rfl ?_)
   exact PE.ok HK.out HB.out rfl
 · have HB:=A hb;have HK:=A (HN.out.2 hk);clear hb hk;go_wp2_with fail;exact⟨rfl,PE.no HK.out HB.out⟩
theorem akQ (w:ai) (hR:Rd L g t w):au af 16 #[.pointer (X ⟨g,0,U⟩)] w (PE g VX (run tF t) w):=by
 obtain⟨r,hr⟩:∃r,run tF t=r:=⟨_,rfl⟩
 rw[hr];have HS:=A hr;have hg:=hR.blk;have HR:=A hR;have HB:Hid (Bt g w w):=A (bS.refl _ _);clear hR hr;have Z:=pW w;go_enter func16,ntmps16;go_wp2_with fail;have hz0:=Z.out.lt;refine(Af _ (HR.out.low qe)).mono ?_;rintro e w1 h1;rcases h1.cases with⟨x1,u1,v1,r1,rfl,b1,V1,R1⟩|⟨u1,r1,rfl,b1⟩
 rotate_left 1
 · exact Ux
 replace HS:=eY HS r1;replace Z:=bV Z w1;replace HB:=eu HB w1;replace HR:=A R1;clear b1 R1;clear r1 h1;obtain⟨p1,m1,c1,rfl,k1⟩:=V1;have d_:=jS k1 w.heap.size;clear k1;dsimp only [cu];have Y:=A (bU.new (w:=w1) (t:=25) (c:=cu x1 p1 m1 c1));dsimp only [cu] at Y;have hz1:=Z.out.lt;go_wp2_with fail;refine(kS _ (HR.out.low qe)).mono ?_;rintro e w2 h2;rcases h2.cases with⟨x2,u2,v2,r2,rfl,b2,V2,R2⟩|⟨u2,r2,rfl,b2⟩
 rotate_left 1
 · have bY:=HB.out;go_wp2_with fail;exact⟨rfl,PE.no (fw HS r2) qe⟩
 replace HS:=eY HS r2;replace Z:=bV Z w2;replace Y:=bV Y w2;replace d_:=A (ja (w2:=w2) d_.out qe);replace HB:=eu HB w2;replace HR:=A R2;clear b2 R2;clear r2 h2;obtain rfl:=V2;go_wp2_with fail;refine(Ql _ (HR.out.low qe)).mono ?_;rintro e w3 h3;rcases h3.cases with⟨x3,u3,v3,r3,rfl,b3,V3⟩|⟨u3,r3,rfl,b3⟩
 rotate_left 1
 · have bY:=HB.out;go_wp2_with fail;exact⟨rfl,PE.no (fw HS r3) qe⟩
 replace HS:=eY HS r3;obtain rfl:=V3;replace Z:=bV Z w3;replace Y:=bV Y w3;replace d_:=A (ja (w2:=w3) d_.out qe);replace HB:=eu HB w3;clear b3 r3 h3;obtain⟨l0,l1,l2,l3,-⟩:=dM Y.out;obtain⟨y0,y1,y2,y3,fz⟩:=dM Z.out;go_wp2_with fail;have bY:=HB.out;refine ah (v:=.agg (cu x1 p1 m1 c1)) ?_ rfl (PE.ok (dz HS) qe ⟨p1,m1,c1,rfl,?_⟩)
 · exact Al
 · have KK:=d_.out;exact jI KK qe
end
end Ps
namespace Ps
open Go.RowKit
section
variable {P:Program} {fn:Func} {p q u x:Tmp} {ty:TypeId}
theorem alS (h:fn.results=#[.cell p ty,.tmp u]) (tmps:Array ak) (w:ai) (g:Nat) (t:TypeId) (cs:Array ak) (fr:Nat×Nat) (d:TypeDesc) (hp:tmps.getD p undef=.pointer (X ⟨g,0,U⟩)) (hg:w.heap[g]?=X (.cells cs t fr)) (hu:P.underlying ty=X d) (hd:(match d with|.struct _|.array _ _=>true|_=>false)=true) (hi:(P.info? ty).map (·.size)=X cs.size) {v1:ak} (e1:tmps.getD u undef=v1):(results fn tmps).run P w=.ok (.tuple #[.agg cs,v1]) w:=by
 have hp':tmps[p]?.getD undef=.pointer (X ⟨g,0,U⟩):=by simpa using hp
 subst e1;simp[results,h,hp',asAddr,run_loadVar_row w g t ty cs fr d hg hu hd hi]
theorem aba (h:fn.results=#[.cell p ty,.tmp u,.tmp x]) (tmps:Array ak) (w:ai) (g:Nat) (t:TypeId) (cs:Array ak) (fr:Nat×Nat) (d:TypeDesc) (hp:tmps.getD p undef=.pointer (X ⟨g,0,U⟩)) (hg:w.heap[g]?=X (.cells cs t fr)) (hu:P.underlying ty=X d) (hd:(match d with|.struct _|.array _ _=>true|_=>false)=true) (hi:(P.info? ty).map (·.size)=X cs.size) {v1 v2:ak} (e1:tmps.getD u undef=v1) (e2:tmps.getD x undef=v2):(results fn tmps).run P w=.ok (.tuple #[.agg cs,v1,v2]) w:=by
 have hp':tmps[p]?.getD undef=.pointer (X ⟨g,0,U⟩):=by simpa using hp
 subst e1 e2;simp[results,h,hp',asAddr,run_loadVar_row w g t ty cs fr d hg hu hd hi]
theorem Ms (h:fn.results=#[.cell p ty,.cell q 3,.tmp u]) (tmps:Array ak) (w:ai) (g k:Nat) (t:TypeId) (cs:Array ak) (fr:Nat×Nat) (d:TypeDesc) (v:ak) (hp:tmps.getD p undef=.pointer (X ⟨g,0,U⟩)) (hq:tmps.getD q undef=.pointer (X ⟨k,0,U⟩)) (hg:w.heap[g]?=X (.cells cs t fr)) (hk:(loadVar 3 ⟨k,0,U⟩).run P w=.ok v w) (hu:P.underlying ty=X d) (hd:(match d with|.struct _|.array _ _=>true|_=>false)=true) (hi:(P.info? ty).map (·.size)=X cs.size):(results fn tmps).run P w=.ok (.tuple #[.agg cs,v,tmps.getD u undef]) w:=by
 have hp':tmps[p]?.getD undef=.pointer (X ⟨g,0,U⟩):=by simpa using hp
 have hq':tmps[q]?.getD undef=.pointer (X ⟨k,0,U⟩):=by simpa using hq
 simp[results,h,hp',hq',asAddr,run_loadVar_row w g t ty cs fr d hg hu hd hi,hk]
end
theorem EW {w:ai} {k:Nat} {v:ak} (h:w.cell? ⟨k,0,U⟩=X v):(loadVar 3 ⟨k,0,U⟩).run af w=.ok v w:=by
 have hu:(underlying 3).run af w=.ok (.int .i64) w:=run_underlying dx w;have ha:(isAgg 3).run af w=.ok false w:=by
  unfold isAgg;rw[Sem.run_bind,hu];rfl
 simp[loadVar,Sem.run_bind,ha,go_sem,h]
end Ps
namespace Ps
open Go.RowKit
open Lx (Tk jC)
open Ex (Ex bX)
open Md (bU)
theorem afU (p:Addr) (x n:Int) (older:List PanicEntry) (w:ai) (hc:w.cell? p=X (.int .i64 x)) (hz:w.frozen? p=false):CallsD af 68 #[.pointer (X p)] (.panicking ({ v:=.iface 127 (.agg #[.int .i64 n]),recovered:=false }::older)) w fun e u' w'=>e=.returned (.tuple #[])/\u'=.panicking ({ v:=.iface 127 (.agg #[.int .i64 n]),recovered:=true }::older)/\w'=(w.alloc (.cells #[.int .i64 n] 127)).setCell p (.int .i64 n):=by
 refine callsD_of_wpS func68 rfl fun c₀ cs hu=>?_;have wP:(Instr.typeAssert (Value.iface 127 (Value.agg #[Value.int IntKind.i64 n])) 20 127 true).run af w=.ok (.tuple #[.agg #[.int .i64 n],.bool true]) w:=by kernel_rfl
 have hlt:p.block<w.heap.size:=by
  exact UQ
 have hbb:(w.alloc (.cells #[.int .i64 n] 127)).heap[p.block]?=w.heap[p.block]?:=by
  exact UT
 have h1:(w.alloc (.cells #[.int .i64 n] 127)).cell? ⟨w.heap.size,0,U⟩=X (.int .i64 n):=by rw[World.cell?_alloc_mark];rfl
 have h2:(w.alloc (.cells #[.int .i64 n] 127)).cell? p=X (.int .i64 x):=(World.cell?_of_block hbb).trans hc;have h3:(w.alloc (.cells #[.int .i64 n] 127)).frozen? p=false:=by unfold ag at hz ⊢; rw[hbb];exact hz
 apply wpS_seq
 apply wpS_region
 simp[wpOpsS,go_sem,recoverD,hu,ntmps68,Exit.thenS,wP]
 apply wpS_seq
 apply wpS_region
 simp[wpOpsS,go_sem,Exit.thenS]
 refine wpS_cond (t:=true) F_ ?_;simp only[if_true]
 apply wpS_region
 simp[wpOpsS,go_sem,h1,h2,h3,bodyPostS,results,results68]
theorem afT (p:Addr) (w:ai):CallsD af 68 #[.pointer (X p)] .returning w fun e u' w'=>e=.returned (.tuple #[])/\u'=.returning/\w'=w.alloc (.cells #[.int .i64 0] 127):=by
 refine callsD_of_wpS func68 rfl fun c₀ cs hu=>?_;have wP:(Instr.typeAssert Value.nilIface 20 127 true).run af w=.ok (.tuple #[.agg #[.int .i64 0],.bool false]) w:=by kernel_rfl
 apply wpS_seq
 apply wpS_region
 simp[wpOpsS,go_sem,recoverD,hu,ntmps68,Exit.thenS,wP]
 apply wpS_seq
 apply wpS_region
 simp[wpOpsS,go_sem,Exit.thenS]
 refine wpS_cond (t:=false) F_ ?_;simp only[Bool.false_eq_true,if_false];refine wpS_of_wp (wp_skip ?_);cases c₀
 simp_all [bodyPostS,results,results68]
def FO {α:Type} (V:Nat->ai->α->ak->Prop) (z:ak) (r:R α) (w:ai) (e:Ending) (w':ai):Prop:=
 Below w.heap.size w w'/\match r with
  | .ok x u=>∃v,e=.returned (.tuple #[v,.int .i64 0,.int .i64 0])/\V w.heap.size w' x v
  | .no u=>e=.returned (.tuple #[z,.int .i64 (hd u).l,.int .i64 9])
theorem oh {a w:ai} (h:bS (fun k=>k<a.heap.size) a w):Below a.heap.size a w:=⟨h.os,h.tape,h.output,h.size,fun k hk=>h.block k hk hk⟩
section
variable {α:Type} {V:Nat->ai->α->ak->Prop} {z v:ak} {r:R α} {w w':ai} {e:Ending} {x:α} {u:List Tk}
theorem FO.ok (hr:r=.ok x u) (hb:Below w.heap.size w w') (hV:V w.heap.size w' x v):FO V z r w (.returned (.tuple #[v,.int .i64 0,.int .i64 0])) w':=by subst hr;exact⟨hb,v,rfl,hV⟩
theorem FO.no (hr:r=.no u) (hb:Below w.heap.size w w'):FO V z r w (.returned (.tuple #[z,.int .i64 (hd u).l,.int .i64 9])) w':=by subst hr;exact⟨hb,rfl⟩
theorem FO.cases (h:FO V z r w e w'):Below w.heap.size w w'/\((∃x u v,r=.ok x u/\e=.returned (.tuple #[v,.int .i64 0,.int .i64 0])/\V w.heap.size w' x v)∨(∃u,r=.no u/\e=.returned (.tuple #[z,.int .i64 (hd u).l,.int .i64 9]))):=by
 obtain⟨hb,h⟩:=h;refine⟨hb,?_⟩
 cases r with
 | ok x u=>obtain⟨v,h1,h2⟩:=h;exact .inl ⟨x,u,v,rfl,h1,h2⟩
 | no u=>exact .inr ⟨u,rfl,h⟩
end
theorem Sj {L:Lk} {w W:ai} {g:Nat} (hW:W=w.alloc (.cells #[.slice (X ⟨L.b,L.o,U⟩) L.m L.c,.int .i64 0] 130)) (hg:g=w.heap.size) (hb:L.b<w.heap.size) (ht:jC w (X ⟨L.b,L.o,U⟩) L.m L.l) (hgd:Gd L.l) (lU:L.l.length<=30000):Rd L g L.l W:=by
 subst hW hg;have e:L.at L.l=0:=by unfold Lk.at;omega
 refine⟨hb,?_,by rw[e];rfl,ht.alloc,hgd,lU⟩;unfold Si;rw[e];exact bU.new
theorem aiq (f:FuncId) (m:P Ex) (L:Lk) (w:ai) (hf:∀(a:Array ak) (W:ai),(callFunc f a).run af W=.ok (.enter f a) W) (ht:jC w (X ⟨L.b,L.o,U⟩) L.m L.l) (hgd:Gd L.l) (lU:L.l.length<=30000) (hC:∀g W,Rd L g L.l W->au af f #[.pointer (X ⟨g,0,U⟩)] W (PE g VX (run m L.l) W)):au af 38 #[.func (.func f) #[] #[],.slice (X ⟨L.b,L.o,U⟩) L.m L.c] w (FO VX (.agg #[.int .i64 0,.string ⟨#[]⟩,.int .i64 0,.slice U 0 0]) (run m L.l) w):=by
 have HC:=A hC;have HT:=A ht;have HG:=A hgd;have HF:=A lU;obtain⟨r,hr⟩:∃r,run m L.l=r:=⟨_,rfl⟩
 rw[hr] at HC ⊢;clear hC ht hgd lU;have Zi:∀(fn:Fn) (first cap:Array ak) (w:ai),(Instr.makeFunc fn first cap).run af w=.ok (.func fn first cap) w:=fun _ _ _ _=>rfl;go_enter_defers func38,ntmps38
 go_wp2_with fail;have hlb:L.b<w.heap.size:=by
  exact UO
 have z0:bU (w.alloc (.cells #[.int .i64 0,.string ⟨#[]⟩,.int .i64 0,.slice U 0 0] 25)) w.heap.size 25 #[.int .i64 0,.string ⟨#[]⟩,.int .i64 0,.slice U 0 0]:=bU.new;have n0:bU ((w.alloc (.cells #[.int .i64 0,.string ⟨#[]⟩,.int .i64 0,.slice U 0 0] 25)).alloc (.cells #[.int .i64 0] 3)) (w.heap.size+1) 3 #[.int .i64 0]:=by
  have h:=bU.new (w:=w.alloc (.cells #[.int .i64 0,.string ⟨#[]⟩,.int .i64 0,.slice U 0 0] 25)) (t:=3) (c:=#[.int .i64 0]);exact adK
 have Z:=A z0;have N:=A n0;have hzl:=z0.lt;have hnl:=n0.lt;clear z0 n0;refine(HC.out (w.heap.size+1+1) _ (Sj rfl cK za (HT.out.alloc.alloc) HG.out HF.out)).mono ?_;rintro e w1 h1;rcases h1.cases with⟨x1,u1,v1,r1,rfl,b1,V1⟩|⟨u1,r1,rfl,b1⟩
 · have Z1:=A (cZ (w2:=w1) Z.out qe);have N1:=A (cZ (w2:=w1) N.out qe);have B1:Hid (bS (fun k=>k<w.heap.size) w w1):=A qe;have HK:=A r1;obtain⟨p1,m1,c1,rfl,k1⟩:=V1;have K1:Hid (bX (fun b=>w.heap.size+1<b) w1 x1 p1 m1):=A (k1.mono fun b hb hlt=>by
    have hb':_<=b:=hb;simp at hb'
    omega)
   dsimp only [cu];clear b1 h1 r1 k1 Z N;obtain⟨y0,y1,y2,y3,fz⟩:=dM Z1.out;have q0:ae _ ⟨_,0,U⟩=X (.int .i64 0):=N1.out.get rfl;have qz:∀i,ag _ ⟨_,i,U⟩=false:=fun i=>fA (i:=i) N1.out;go_wp2_with fail;refine leaves_cons (f:=68) (args:=#[.pointer (X ⟨w.heap.size+1,0,U⟩)]) cK (by simp[go_sem]) ?_;refine(afT _ _).mono ?_;rintro e u' w'' ⟨rfl,rfl,rfl⟩;have BB:=B1.out;refine⟨_,Ms rfl _ _ w.heap.size (w.heap.size+1) 25 (cu x1 p1 m1 c1) (0,0) _ (.int .i64 0) rfl rfl ?_ (EW ?_) underlying25 rfl dx,?_⟩
   · exact cZ (qK Z1.out rfl) qe
   · have N4:=eX (i:=0) (v:=.int .i64 0) (cZ (w2:=((((w1.setCell ⟨w.heap.size,0,U⟩ (.int .i64 x1.o)).setCell ⟨w.heap.size,1,U⟩ (.string x1.s)).setCell ⟨w.heap.size,2,U⟩ (.int .i64 x1.n)).setCell ⟨w.heap.size,3,U⟩ (.slice p1 m1 c1))) N1.out qe);exact(cZ N4 qe).get (r:=0) rfl
   · have q:∀W,bS (fun b=>w.heap.size+1<b) w1 W->bX (fun b=>w.heap.size<=b) W x1 p1 m1:=fun W q=>Ex.bX.map q.size (fun b hb hlt=>⟨by show w.heap.size<=b;have hb':w.heap.size+1<b:=hb;omega,q.block b hlt hb⟩) _ K1.out;exact FO.ok HK.out (oh qe) ⟨p1,m1,c1,rfl,q _ qe⟩
 · have Z1:=A (cZ (w2:=w1) Z.out qe);have N1:=A (cZ (w2:=w1) N.out qe);have B1:Hid (bS (fun k=>k<w.heap.size) w w1):=A qe;have HK:=A r1;clear b1 h1 r1 Z N;go_wp2_with fail;refine leaves_cons (f:=68) (args:=#[.pointer (X ⟨w.heap.size+1,0,U⟩)]) cK (by simp[go_sem]) ?_;refine(afU _ 0 (hd u1).l [] _ (N1.out.get rfl) (fA N1.out)).mono ?_;rintro e u' w'' ⟨rfl,rfl,rfl⟩;refine⟨_,Ms rfl _ _ w.heap.size (w.heap.size+1) 25 #[.int .i64 0,.string ⟨#[]⟩,.int .i64 0,.slice U 0 0] (0,0) _ (.int .i64 (hd u1).l) rfl rfl ?_ (EW ?_) underlying25 rfl dx,?_⟩
   · exact cZ Z1.out qe
   · exact UR
   · exact UA
end Ps
namespace Ps
open Go.RowKit
open Lx (jC)
open Md (bU dL dS zi jB)
theorem afQ (p:Addr) (x n:Int) (older:List PanicEntry) (w:ai) (hc:w.cell? p=X (.int .i64 x)) (hz:w.frozen? p=false):CallsD af 78 #[.pointer (X p)] (.panicking ({ v:=.iface 127 (.agg #[.int .i64 n]),recovered:=false }::older)) w fun e u' w'=>e=.returned (.tuple #[])/\u'=.panicking ({ v:=.iface 127 (.agg #[.int .i64 n]),recovered:=true }::older)/\w'=(w.alloc (.cells #[.int .i64 n] 127)).setCell p (.int .i64 n):=by
 refine callsD_of_wpS func78 rfl fun c₀ cs hu=>?_;have wP:(Instr.typeAssert (Value.iface 127 (Value.agg #[Value.int IntKind.i64 n])) 20 127 true).run af w=.ok (.tuple #[.agg #[.int .i64 n],.bool true]) w:=by kernel_rfl
 have hlt:p.block<w.heap.size:=by
  exact UQ
 have hbb:(w.alloc (.cells #[.int .i64 n] 127)).heap[p.block]?=w.heap[p.block]?:=by
  exact UT
 have h1:(w.alloc (.cells #[.int .i64 n] 127)).cell? ⟨w.heap.size,0,U⟩=X (.int .i64 n):=by rw[World.cell?_alloc_mark];rfl
 have h2:(w.alloc (.cells #[.int .i64 n] 127)).cell? p=X (.int .i64 x):=(World.cell?_of_block hbb).trans hc;have h3:(w.alloc (.cells #[.int .i64 n] 127)).frozen? p=false:=by unfold ag at hz ⊢; rw[hbb];exact hz
 apply wpS_seq
 apply wpS_region
 simp[wpOpsS,go_sem,recoverD,hu,ntmps78,Exit.thenS,wP]
 apply wpS_seq
 apply wpS_region
 simp[wpOpsS,go_sem,Exit.thenS]
 refine wpS_cond (t:=true) F_ ?_;simp only[if_true]
 apply wpS_region
 simp[wpOpsS,go_sem,h1,h2,h3,bodyPostS,results,results78]
theorem afP (p:Addr) (w:ai):CallsD af 78 #[.pointer (X p)] .returning w fun e u' w'=>e=.returned (.tuple #[])/\u'=.returning/\w'=w.alloc (.cells #[.int .i64 0] 127):=by
 refine callsD_of_wpS func78 rfl fun c₀ cs hu=>?_;have wP:(Instr.typeAssert Value.nilIface 20 127 true).run af w=.ok (.tuple #[.agg #[.int .i64 0],.bool false]) w:=by kernel_rfl
 apply wpS_seq
 apply wpS_region
 simp[wpOpsS,go_sem,recoverD,hu,ntmps78,Exit.thenS,wP]
 apply wpS_seq
 apply wpS_region
 simp[wpOpsS,go_sem,Exit.thenS]
 refine wpS_cond (t:=false) F_ ?_;simp only[Bool.false_eq_true,if_false];refine wpS_of_wp (wp_skip ?_);cases c₀
 simp_all [bodyPostS,results,results78]
theorem aio (f:FuncId) (m:P dL) (L:Lk) (w:ai) (hf:∀(a:Array ak) (W:ai),(callFunc f a).run af W=.ok (.enter f a) W) (ht:jC w (X ⟨L.b,L.o,U⟩) L.m L.l) (hgd:Gd L.l) (lU:L.l.length<=30000) (hC:∀g W,Rd L g L.l W->au af f #[.pointer (X ⟨g,0,U⟩)] W (PE g (VR zi) (run m L.l) W)):au af 48 #[.func (.func f) #[] #[],.slice (X ⟨L.b,L.o,U⟩) L.m L.c] w (FO (VR zi) (.agg #[.string ⟨#[]⟩,.slice U 0 0,.slice U 0 0,.slice U 0 0]) (run m L.l) w):=by
 have HC:=A hC;have HT:=A ht;have HG:=A hgd;have HF:=A lU;obtain⟨r,hr⟩:∃r,run m L.l=r:=⟨_,rfl⟩
 rw[hr] at HC ⊢;clear hC ht hgd lU;have Zi:∀(fn:Fn) (first cap:Array ak) (w:ai),(Instr.makeFunc fn first cap).run af w=.ok (.func fn first cap) w:=fun _ _ _ _=>rfl;go_enter_defers func48,ntmps48
 go_wp2_with fail;have hlb:L.b<w.heap.size:=by
  exact UO
 have z0:bU (w.alloc (.cells #[.string ⟨#[]⟩,.slice U 0 0,.slice U 0 0,.slice U 0 0] 40)) w.heap.size 40 #[.string ⟨#[]⟩,.slice U 0 0,.slice U 0 0,.slice U 0 0]:=bU.new;have n0:bU ((w.alloc (.cells #[.string ⟨#[]⟩,.slice U 0 0,.slice U 0 0,.slice U 0 0] 40)).alloc (.cells #[.int .i64 0] 3)) (w.heap.size+1) 3 #[.int .i64 0]:=by
  have h:=bU.new (w:=w.alloc (.cells #[.string ⟨#[]⟩,.slice U 0 0,.slice U 0 0,.slice U 0 0] 40)) (t:=3) (c:=#[.int .i64 0]);exact zzx
 have Z:=A z0;have N:=A n0;have hzl:=z0.lt;have hnl:=n0.lt;clear z0 n0;refine(HC.out (w.heap.size+1+1) _ (Sj rfl cK za (HT.out.alloc.alloc) HG.out HF.out)).mono ?_;rintro e w1 h1;rcases h1.cases with⟨x1,u1,v1,r1,rfl,b1,V1⟩|⟨u1,r1,rfl,b1⟩
 · have Z1:=A (cZ (w2:=w1) Z.out qe);have N1:=A (cZ (w2:=w1) N.out qe);have B1:Hid (bS (fun k=>k<w.heap.size) w w1):=A qe;have HK:=A r1;obtain⟨c1,rfl,P1,rfl,k1⟩:=V1;have K1:Hid (jB (fun b=>w.heap.size+1<b) w1 x1 P1):=A (k1.map (Nat.le_refl _) fun b hb hlt=>⟨by
    have hb':_<=b:=hb;simp at hb'
    show w.heap.size+1<b
    omega,rfl⟩)
   dsimp only [dS];clear b1 h1 r1 k1 Z N;obtain⟨y0,y1,y2,y3,fz⟩:=dM Z1.out;have q0:ae _ ⟨_,0,U⟩=X (.int .i64 0):=N1.out.get rfl;have qz:∀i,ag _ ⟨_,i,U⟩=false:=fun i=>fA (i:=i) N1.out;go_wp2_with fail;refine leaves_cons (f:=78) (args:=#[.pointer (X ⟨w.heap.size+1,0,U⟩)]) cK (by simp[go_sem]) ?_;refine(afP _ _).mono ?_;rintro e u' w'' ⟨rfl,rfl,rfl⟩;have BB:=B1.out;refine⟨_,Ms rfl _ _ w.heap.size (w.heap.size+1) 40 (dS x1 P1) (0,0) _ (.int .i64 0) rfl rfl ?_ (EW ?_) underlying40 rfl dx,?_⟩
   · exact cZ (qK Z1.out rfl) qe
   · have N4:=eX (i:=0) (v:=.int .i64 0) (cZ (w2:=((((w1.setCell ⟨w.heap.size,0,U⟩ (.string x1.nm)).setCell ⟨w.heap.size,1,U⟩ (.slice P1.pap P1.Dh P1.Dg)).setCell ⟨w.heap.size,2,U⟩ (.slice P1.yR P1.xE P1.Bh)).setCell ⟨w.heap.size,3,U⟩ (.slice P1.EU P1.lim P1.Io))) N1.out qe);exact(cZ N4 qe).get (r:=0) rfl
   · have q:∀W,bS (fun b=>w.heap.size+1<b) w1 W->jB (fun b=>w.heap.size<=b) W x1 P1:=fun W q=>K1.out.map q.size (fun b hb hlt=>⟨by show w.heap.size<=b;have hb':w.heap.size+1<b:=hb;omega,q.block b hlt hb⟩);exact FO.ok HK.out (oh qe) ⟨_,rfl,P1,rfl,q _ qe⟩
 · have Z1:=A (cZ (w2:=w1) Z.out qe);have N1:=A (cZ (w2:=w1) N.out qe);have B1:Hid (bS (fun k=>k<w.heap.size) w w1):=A qe;have HK:=A r1;clear b1 h1 r1 Z N;go_wp2_with fail;refine leaves_cons (f:=78) (args:=#[.pointer (X ⟨w.heap.size+1,0,U⟩)]) cK (by simp[go_sem]) ?_;refine(afQ _ 0 (hd u1).l [] _ (N1.out.get rfl) (fA N1.out)).mono ?_;rintro e u' w'' ⟨rfl,rfl,rfl⟩;refine⟨_,Ms rfl _ _ w.heap.size (w.heap.size+1) 40 #[.string ⟨#[]⟩,.slice U 0 0,.slice U 0 0,.slice U 0 0] (0,0) _ (.int .i64 (hd u1).l) rfl rfl ?_ (EW ?_) underlying40 rfl dx,?_⟩
   · exact cZ Z1.out qe
   · exact UR
   · exact UA
end Ps
end Go.Proofs.YtkpekhpgdajabaaGreatDoor
