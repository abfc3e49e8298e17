/-
  Parts of this proof: The contracts of the reader's levels of an expre. The contract of the reader's comparison. What holds of all that a rule reads. The contracts of the reader's rules for expressi. The ends of texts. Reading results that lie in variables. The contracts of follow. How much is read.
-/
import Derived.Test.YtbgodajefaahdaaGreatDoorYTExB
import Derived.Defers
import Derived.Recover
open Go.World renaming cell?->U,frozen?->af
open Option renaming none->X,some->C
open Go.Proofs.Tryz renaming prog->ae
open Go.Lib renaming hid->D
open Go renaming results_cell_row->ag,bodyPost_ret->ah,World->ai,Calls->ak,Value->au
open Nat renaming le_trans->aj
open Go.RowKit renaming Hid->av
set_option linter.unusedVariables false
open Go.Lib (hid)
namespace Go.Proofs.YtbgodajefaahdaaGreatDoor
namespace Ps
open Go.RowKit
open Lx (Tk)
open Ex (Ex bW)
open Md (Rw At bT)
set_option maxHeartbeats 300000
theorem F5 {w:ai} {b o:Nat} {x y:au} (h0:w.cell? ⟨b,o,X⟩=C x) (h1:w.cell? ⟨b,o+1,X⟩=C y):At w b o #[x,y]:=by
 intro r v hv;have hr:r<2:=(Array.getElem?_eq_some_iff.1 hv).1
 match r,hr,hv with
 | 0,_,hv=>cases hv;rw[Nat.add_zero];exact h0
 | 1,_,hv=>cases hv;exact h1
theorem aej {g:Nat} {w:ai} {b:Nat} {s:ByteArray} {i:Int} (hg:g<b) (he:b=w.heap.size):Rw 2 Ak (fun b=>¬b=g) (w.alloc (.cells #[.string s,.int .i64 i] 184)) [(s,i)] (C ⟨b,0,X⟩) 1:=by
 subst he;have hb:bT (w.alloc (.cells #[.string s,.int .i64 i] 184)) w.heap.size 184 _:=bT.new;refine⟨rfl,by omega,.inr ⟨w.heap.size,0,rfl,by omega,by simp,D fun k hk=>?_⟩⟩
 match k,hk with
 | 0,_=>exact⟨_,rfl,F5 (hb.get rfl) (hb.get rfl),rfl⟩
theorem apa {g:Nat} {w:ai} {b:Nat} {s s2:ByteArray} {i i2:Int} (hg:g<b) (he:b=w.heap.size):Rw 2 Ak (fun b=>¬b=g) (w.alloc (.cells #[.string s,.int .i64 i,.string s2,.int .i64 i2] 184)) [(s,i),(s2,i2)] (C ⟨b,0,X⟩) 2:=by
 subst he;have hb:bT (w.alloc (.cells #[.string s,.int .i64 i,.string s2,.int .i64 i2] 184)) w.heap.size 184 _:=bT.new;refine⟨rfl,by omega,.inr ⟨w.heap.size,0,rfl,by omega,by simp,D fun k hk=>?_⟩⟩
 match k,hk with
 | 0,_=>exact⟨_,rfl,F5 (hb.get rfl) (hb.get rfl),rfl⟩
 | 1,_=>exact⟨_,rfl,F5 (hb.get rfl) (hb.get rfl),rfl⟩
theorem apb {g:Nat} {w:ai} {b:Nat} {s s2 s3:ByteArray} {i i2 i3:Int} (hg:g<b) (he:b=w.heap.size):Rw 2 Ak (fun b=>¬b=g) (w.alloc (.cells #[.string s,.int .i64 i,.string s2,.int .i64 i2,.string s3,.int .i64 i3] 184)) [(s,i),(s2,i2),(s3,i3)] (C ⟨b,0,X⟩) 3:=by
 subst he;have hb:bT (w.alloc (.cells #[.string s,.int .i64 i,.string s2,.int .i64 i2,.string s3,.int .i64 i3] 184)) w.heap.size 184 _:=bT.new;refine⟨rfl,by omega,.inr ⟨w.heap.size,0,rfl,by omega,by simp,D fun k hk=>?_⟩⟩
 match k,hk with
 | 0,_=>exact⟨_,rfl,F5 (hb.get rfl) (hb.get rfl),rfl⟩
 | 1,_=>exact⟨_,rfl,F5 (hb.get rfl) (hb.get rfl),rfl⟩
 | 2,_=>exact⟨_,rfl,F5 (hb.get rfl) (hb.get rfl),rfl⟩
section
variable {L:Lk} {g:Nat} {t:List Tk} {m:P Ex}
theorem QB {p:Prop} (h:p:=by
 rintro e w1 h1;rcases h1.cases with⟨x1,u1,v1,r1,rfl,b1,V1,R1⟩|⟨u1,r1,rfl,b1⟩
 rotate_left 1
 · have bU:=HB.out;go_wp2_with fail;exact⟨rfl,PO.no (HS.out.symm.trans r1) qe⟩
 have HL1:=D (HS.out.symm.trans r1);replace Z:=D (bS (w2:=w1) Z.out qe);replace HB:av (Bt g w w1):=D qh;replace HR:=D R1;clear b1 R1;clear r1 h1;obtain⟨p1,m1,c1,rfl,k1⟩:=V1;have eB:av (bW (fun b=>w.heap.size<b) w1 x1 p1 m1):=D (k1.mono fun b hb hlt=>(by have hb':_<=b:=hb;first|(simp at hb';omega)|omega));clear k1;dsimp only [cu];have y0:U _ ⟨_,0,X⟩=C (.int .i64 0):=Z.out.get rfl;have y1:U _ ⟨_,1,X⟩=C (.string ⟨#[]⟩):=Z.out.get rfl;have y2:U _ ⟨_,2,X⟩=C (.int .i64 0):=Z.out.get rfl;have y3:U _ ⟨_,3,X⟩=C (.slice X 0 0):=Z.out.get rfl;have fz:∀i,af _ ⟨_,i,X⟩=false:=fun i=>df (i:=i) Z.out;go_wp2_with fail;have bU:=HB.out;refine ah (v:=.agg (cu (x1) (p1) m1 c1)) ?_ rfl (PO.ok HL1.out qe ⟨(p1),m1,c1,rfl,?_⟩ (HR.out.low qe))
 · exact ag rfl _ _ w.heap.size 41 _ (0,0) _ rfl (lu Z.out rfl) Tryz.underlying41 rfl (by kernel_rfl)
 · have KK:=eB.out;exact gX KK qe
 ):p:=h
set_option maxRecDepth 100000 in
theorem apK (hm:Dn 1 m) (w:ai) (hR:Rd L g t w) (hC:∀W u,Rd L g u W->u.length<=t.length->ak ae 208 #[.pointer (C ⟨g,0,X⟩)] W (PO L g VX (run m u) W)):ak ae 203 #[.pointer (C ⟨g,0,X⟩)] w (PO L g VX (run (GX m) t) w):=by
 have HC:=D hC;have HM:=D hm;clear hC hm;obtain⟨r,hr⟩:∃r,run (GX m) t=r:=⟨_,rfl⟩
 rw[hr];have HS:=D hr;have hg:=hR.blk;have HR:=D hR;have HB:av (Bt g w w):=D (bR.refl _ _);clear hR hr;have Z:=D (bT.new (w:=w) (t:=41) (c:=#[.int .i64 0,.string ⟨#[]⟩,.int .i64 0,.slice X 0 0]));go_enter Tryz.func203,Tryz.ntmps203;go_wp2_with fail;have hz1:=Z.out.lt;refine(NM 208 m [(Mc,11),(ag2,12),(ag0,13)] _ 3 3 _ (HR.out.low qe) HC.out (fun _ _=>rfl) (apb (by omega) (by simp)) (by decide) HM.out).mono ?_;exact QB
set_option maxRecDepth 100000 in
theorem ar0 (hm:Dn 1 m) (w:ai) (hR:Rd L g t w) (hC:∀W u,Rd L g u W->u.length<=t.length->ak ae 208 #[.pointer (C ⟨g,0,X⟩)] W (PO L g VX (run m u) W)):ak ae 197 #[.pointer (C ⟨g,0,X⟩)] w (PO L g VX (run (sum m) t) w):=by
 have HC:av (∀W u,Rd L g u W->u.length<=t.length->ak ae 203 #[.pointer (C ⟨g,0,X⟩)] W (PO L g VX (run (GX m) u) W)):=D fun W u hW hu=>apK hm W hW fun W' u' hW' hu'=>hC W' u' hW' (aj hu' hu);have HM:=D (aav hm);clear hC hm;obtain⟨r,hr⟩:∃r,run (sum m) t=r:=⟨_,rfl⟩
 rw[hr];have HS:=D hr;have hg:=hR.blk;have HR:=D hR;have HB:av (Bt g w w):=D (bR.refl _ _);clear hR hr;have Z:=D (bT.new (w:=w) (t:=41) (c:=#[.int .i64 0,.string ⟨#[]⟩,.int .i64 0,.slice X 0 0]));go_enter Tryz.func197,Tryz.ntmps197;go_wp2_with fail;have hz1:=Z.out.lt;refine(NM 203 (GX m) [(Yf,9),(xK,10)] _ 2 2 _ (HR.out.low qe) HC.out (fun _ _=>rfl) (apa (by omega) (by simp)) (by decide) HM.out).mono ?_;exact QB
set_option maxRecDepth 100000 in
theorem akE (hm:Dn 1 m) (w:ai) (hR:Rd L g t w) (hC:∀W u,Rd L g u W->u.length<=t.length->ak ae 143 #[.pointer (C ⟨g,0,X⟩)] W (PO L g VX (run m u) W)):ak ae 94 #[.pointer (C ⟨g,0,X⟩)] w (PO L g VX (run (Gl m) t) w):=by
 have HC:=D hC;have HM:=D hm;clear hC hm;obtain⟨r,hr⟩:∃r,run (Gl m) t=r:=⟨_,rfl⟩
 rw[hr];have HS:=D hr;have hg:=hR.blk;have HR:=D hR;have HB:av (Bt g w w):=D (bR.refl _ _);clear hR hr;have Z:=D (bT.new (w:=w) (t:=41) (c:=#[.int .i64 0,.string ⟨#[]⟩,.int .i64 0,.slice X 0 0]));go_enter Tryz.func94,Tryz.ntmps94;go_wp2_with fail;have hz1:=Z.out.lt;refine(NM 143 m [(ac3,18)] _ 1 1 _ (HR.out.low qe) HC.out (fun _ _=>rfl) (aej (by omega) (by simp)) (by decide) HM.out).mono ?_;exact QB
set_option maxRecDepth 100000 in
theorem al3 (hm:Dn 1 m) (w:ai) (hR:Rd L g t w) (hC:∀W u,Rd L g u W->u.length<=t.length->ak ae 143 #[.pointer (C ⟨g,0,X⟩)] W (PO L g VX (run m u) W)):ak ae 53 #[.pointer (C ⟨g,0,X⟩)] w (PO L g VX (run (Ck m) t) w):=by
 have HC:av (∀W u,Rd L g u W->u.length<=t.length->ak ae 94 #[.pointer (C ⟨g,0,X⟩)] W (PO L g VX (run (Gl m) u) W)):=D fun W u hW hu=>akE hm W hW fun W' u' hW' hu'=>hC W' u' hW' (aj hu' hu);have HM:=D (aal hm);clear hC hm;obtain⟨r,hr⟩:∃r,run (Ck m) t=r:=⟨_,rfl⟩
 rw[hr];have HS:=D hr;have hg:=hR.blk;have HR:=D hR;have HB:av (Bt g w w):=D (bR.refl _ _);clear hR hr;have Z:=D (bT.new (w:=w) (t:=41) (c:=#[.int .i64 0,.string ⟨#[]⟩,.int .i64 0,.slice X 0 0]));go_enter Tryz.func53,Tryz.ntmps53;go_wp2_with fail;have hz1:=Z.out.lt;refine(NM 94 (Gl m) [(kOr,19)] _ 1 1 _ (HR.out.low qe) HC.out (fun _ _=>rfl) (aej (by omega) (by simp)) (by decide) HM.out).mono ?_;exact QB
end
end Ps
namespace Ps
open Go.RowKit
open Lx (Tk)
open Ex (Ex bW)
open Md (bT)
set_option maxHeartbeats 2000000
section
variable {L:Lk} {g:Nat} {t:List Tk} {m:P Ex}
theorem Ht {p:Prop} (h:p:=by have hgB:¬w1.heap.size=g:=(by omega);exact qe):p:=h
theorem Hu {p:Prop} (h:p:=by have h1:=HT.out;rw[List.length_tail];omega):p:=h
theorem Hw {p:Prop} (h:p:=by have q5:Lw g _ wb:=bR.of hb4;exact qe):p:=h
theorem Hz {p:Prop} (h:p:=by show w.heap.size<wa.heap.size;omega):p:=h
set_option maxRecDepth 100000 in
theorem akB (hm:Dn 1 m) (w:ai) (hR:Rd L g t w) (hC:∀W u,Rd L g u W->u.length<=t.length->ak ae 197 #[.pointer (C ⟨g,0,X⟩)] W (PO L g VX (run (sum m) u) W)):ak ae 175 #[.pointer (C ⟨g,0,X⟩)] w (PO L g VX (run (cmp m) t) w):=by
 have HC:=D hC;have HD:av (∀x u,run (sum m) t=.ok x u->u.length<=t.length):=D fun x u h=>by have:=((Cj hm).out hR.gd h).2;omega
 clear hC hm;obtain⟨r,hr⟩:∃r,run (cmp m) t=r:=⟨_,rfl⟩
 rw[hr];have HS:=D hr;have hg:=hR.blk;have HR:=D hR;have HB:av (Bt g w w):=D (bR.refl _ _);clear hR hr;have Z:=D (bT.new (w:=w) (t:=41) (c:=#[.int .i64 0,.string ⟨#[]⟩,.int .i64 0,.slice X 0 0]));go_enter Tryz.func175,Tryz.ntmps175;go_wp2_with fail;have hz0:=Z.out.lt;refine(HC.out _ _ (HR.out.low qe) (Nat.le_refl _)).mono ?_;rintro e w1 h1;rcases h1.cases with⟨x1,u1,v1,r1,rfl,b1,V1,R1⟩|⟨u1,r1,rfl,b1⟩
 rotate_left 1
 · have bU:=HB.out;go_wp2_with fail;exact⟨rfl,PO.no (dJ HS (by assumption)) qe⟩
 replace HS:=bY HS r1;replace Z:=D (bS (w2:=w1) Z.out qe);have HT:=D (HD.out _ _ r1);replace HB:av (Bt g w w1):=D qh;replace HR:=D R1;clear b1 R1;clear r1 h1;clear HD;obtain⟨p1,m1,c1,rfl,k1⟩:=V1;have eB:av (bW (fun b=>w.heap.size<b) w1 x1 p1 m1):=D (k1.mono fun b hb hlt=>(by have hb':_<=b:=hb;first|(simp at hb';omega)|omega));clear k1;dsimp only [cu];have Y:=D (bT.new (w:=w1) (t:=41) (c:=cu x1 p1 m1 c1));dsimp only [cu] at Y;have hz1:=Z.out.lt;go_wp2_with fail;refine(dL BK _ (HR.out.low qe) (by decide)).mono ?_;rintro e w2 ⟨b2,⟨i2,rfl,R2⟩|⟨i2,rfl,R2⟩⟩
 · replace HS:=dY HS i2;replace Z:=D (bS (w2:=w2) Z.out qe);replace Y:=D (bS (w2:=w2) Y.out qe);replace eB:=D (jB (w2:=w2) eB.out qe);replace HB:av (Bt g w w2):=D qh;replace HR:=D R2;clear b2 R2;clear i2;have l0:U _ ⟨_,0,X⟩=C (.int .i64 x1.o):=Y.out.get rfl;have l1:U _ ⟨_,1,X⟩=C (.string x1.s):=Y.out.get rfl;have l2:U _ ⟨_,2,X⟩=C (.int .i64 x1.n):=Y.out.get rfl;have l3:U _ ⟨_,3,X⟩=C (.slice p1 m1 c1):=Y.out.get rfl;have fz:∀i,af _ ⟨_,i,X⟩=false:=fun i=>df (i:=i) Y.out;go_wp2_with fail;go_region_with (first|(go_at_call 142;refine(yB _ _ _ _ _).mono ?_;rintro e' wb ⟨rfl,hb4⟩;have q4:Bt g _ wb:=bR.of hb4;have sb:bT wb w.heap.size 41 #[.int .i64 0,.string ⟨#[]⟩,.int .i64 0,.slice X 0 0]:=bS sa qe;have y0:U wb ⟨w.heap.size,0,X⟩=C (.int .i64 0):=sb.get rfl;have y1:U wb ⟨w.heap.size,1,X⟩=C (.string ⟨#[]⟩):=sb.get rfl;have y2:U wb ⟨w.heap.size,2,X⟩=C (.int .i64 0):=sb.get rfl;have y3:U wb ⟨w.heap.size,3,X⟩=C (.slice X 0 0):=sb.get rfl;have Er:∀i,af wb ⟨w.heap.size,i,X⟩=false:=fun i=>df (i:=i) sb)|(refine(HC.out _ _ (HR.out.low qe) Hu).mono ?_;rintro e' wa h3;rcases h3.cases with⟨x3,u3,v3,r3,rfl,b3,V3,R3⟩|⟨u3,r3,rfl,b3⟩;rotate_left 1;(have bU:=HB.out;exact⟨rfl,PO.no (dJ HS (by assumption)) qe⟩);obtain⟨p3,m3,c3,rfl,k3⟩:=V3;dsimp only [cu];have sa:bT wa w.heap.size 41 #[.int .i64 0,.string ⟨#[]⟩,.int .i64 0,.slice X 0 0]:=bS (w2:=wa) Z.out qe;have s3:=bS (w2:=wa) Y.out Ht;have m0:U wa ⟨w1.heap.size,0,X⟩=C (.int .i64 x1.o):=s3.get rfl;have vG:U wa ⟨w1.heap.size,1,X⟩=C (.string x1.s):=s3.get rfl;have vH:U wa ⟨w1.heap.size,2,X⟩=C (.int .i64 x1.n):=s3.get rfl;have vI:U wa ⟨w1.heap.size,3,X⟩=C (.slice p1 m1 c1):=s3.get rfl))
   all_goals
    have z2:=Y.out.lt;have HS2:=bY HS r3;have uu:w2.heap.size<=wa.heap.size:=b3.size;have KE:bW (fun b=>w.heap.size<b) wa x1 p1 m1:=jB (w2:=wa) eB.out qe;have KX:bW (fun b=>w.heap.size<b) wa x3 p3 m3:=k3.mono fun b hb hlt=>by
     have hb2:w2.heap.size<=b:=hb;omega
    have KN:=yw (c:=c1) (d:=c3) 14 KE KX Hz;have K4:av (bW (fun b=>w.heap.size<b) wb (jl 14 x1 x3) (C ⟨wa.heap.size,0,X⟩) 2):=D (Ex.bW.map hb4.size (fun b hb hlt=>⟨hb,hb4.block b hlt⟩) _ KN);replace Z:=D sb;have R4:Rd L g u3 wb:=R3.low Hw;replace HB:av (Bt g w wb):=D qh;replace HR:=D R4;clear KE KX KN uu r3 k3 h3 R3 R4 b3 hb4 q4 sb sa s3 m0 vG vH vI l0 l1 l2 l3 fz;go_wp2_with fail;have bU:=HB.out;refine ah (v:=.agg (cu (jl 14 x1 x3) (C ⟨wa.heap.size,0,X⟩) 2 2)) ?_ rfl (PO.ok (dA HS2) qe ⟨(C ⟨wa.heap.size,0,X⟩),2,2,rfl,?_⟩ (HR.out.low qe))
    · exact ag rfl _ _ w.heap.size 41 _ (0,0) _ rfl (lu Z.out rfl) Tryz.underlying41 rfl (by kernel_rfl)
    · have KK:=K4.out;exact gX KK qe
 replace HS:=dX HS i2;replace Z:=D (bS (w2:=w2) Z.out qe);replace Y:=D (bS (w2:=w2) Y.out qe);replace eB:=D (jB (w2:=w2) eB.out qe);replace HB:av (Bt g w w2):=D qh;replace HR:=D R2;clear b2 R2;clear i2;go_wp2_with fail;refine(dL zNe _ (HR.out.low qe) (by decide)).mono ?_;rintro e w4 ⟨b4,⟨i4,rfl,R4⟩|⟨i4,rfl,R4⟩⟩
 · replace HS:=dY HS i4;replace Z:=D (bS (w2:=w4) Z.out qe);replace Y:=D (bS (w2:=w4) Y.out qe);replace eB:=D (jB (w2:=w4) eB.out qe);replace HB:av (Bt g w w4):=D qh;replace HR:=D R4;clear b4 R4;clear i4;have l0:U _ ⟨_,0,X⟩=C (.int .i64 x1.o):=Y.out.get rfl;have l1:U _ ⟨_,1,X⟩=C (.string x1.s):=Y.out.get rfl;have l2:U _ ⟨_,2,X⟩=C (.int .i64 x1.n):=Y.out.get rfl;have l3:U _ ⟨_,3,X⟩=C (.slice p1 m1 c1):=Y.out.get rfl;have fz:∀i,af _ ⟨_,i,X⟩=false:=fun i=>df (i:=i) Y.out;go_wp2_with fail;go_region_with (first|(go_at_call 142;refine(yB _ _ _ _ _).mono ?_;rintro e' wb ⟨rfl,hb4⟩;have q4:Bt g _ wb:=bR.of hb4;have sb:bT wb w.heap.size 41 #[.int .i64 0,.string ⟨#[]⟩,.int .i64 0,.slice X 0 0]:=bS sa qe;have y0:U wb ⟨w.heap.size,0,X⟩=C (.int .i64 0):=sb.get rfl;have y1:U wb ⟨w.heap.size,1,X⟩=C (.string ⟨#[]⟩):=sb.get rfl;have y2:U wb ⟨w.heap.size,2,X⟩=C (.int .i64 0):=sb.get rfl;have y3:U wb ⟨w.heap.size,3,X⟩=C (.slice X 0 0):=sb.get rfl;have Er:∀i,af wb ⟨w.heap.size,i,X⟩=false:=fun i=>df (i:=i) sb)|(refine(HC.out _ _ (HR.out.low qe) Hu).mono ?_;rintro e' wa h3;rcases h3.cases with⟨x3,u3,v3,r3,rfl,b3,V3,R3⟩|⟨u3,r3,rfl,b3⟩;rotate_left 1;(have bU:=HB.out;exact⟨rfl,PO.no (dJ HS (by assumption)) qe⟩);obtain⟨p3,m3,c3,rfl,k3⟩:=V3;dsimp only [cu];have sa:bT wa w.heap.size 41 #[.int .i64 0,.string ⟨#[]⟩,.int .i64 0,.slice X 0 0]:=bS (w2:=wa) Z.out qe;have s3:=bS (w2:=wa) Y.out Ht;have m0:U wa ⟨w1.heap.size,0,X⟩=C (.int .i64 x1.o):=s3.get rfl;have vG:U wa ⟨w1.heap.size,1,X⟩=C (.string x1.s):=s3.get rfl;have vH:U wa ⟨w1.heap.size,2,X⟩=C (.int .i64 x1.n):=s3.get rfl;have vI:U wa ⟨w1.heap.size,3,X⟩=C (.slice p1 m1 c1):=s3.get rfl))
   all_goals
    have z2:=Y.out.lt;have HS2:=bY HS r3;have uu:w4.heap.size<=wa.heap.size:=b3.size;have KE:bW (fun b=>w.heap.size<b) wa x1 p1 m1:=jB (w2:=wa) eB.out qe;have KX:bW (fun b=>w.heap.size<b) wa x3 p3 m3:=k3.mono fun b hb hlt=>by
     have hb2:w4.heap.size<=b:=hb;omega
    have KN:=yw (c:=c1) (d:=c3) 15 KE KX Hz;have K4:av (bW (fun b=>w.heap.size<b) wb (jl 15 x1 x3) (C ⟨wa.heap.size,0,X⟩) 2):=D (Ex.bW.map hb4.size (fun b hb hlt=>⟨hb,hb4.block b hlt⟩) _ KN);replace Z:=D sb;have R4:Rd L g u3 wb:=R3.low Hw;replace HB:av (Bt g w wb):=D qh;replace HR:=D R4;clear KE KX KN uu r3 k3 h3 R3 R4 b3 hb4 q4 sb sa s3 m0 vG vH vI l0 l1 l2 l3 fz;go_wp2_with fail;have bU:=HB.out;refine ah (v:=.agg (cu (jl 15 x1 x3) (C ⟨wa.heap.size,0,X⟩) 2 2)) ?_ rfl (PO.ok (dA HS2) qe ⟨(C ⟨wa.heap.size,0,X⟩),2,2,rfl,?_⟩ (HR.out.low qe))
    · exact ag rfl _ _ w.heap.size 41 _ (0,0) _ rfl (lu Z.out rfl) Tryz.underlying41 rfl (by kernel_rfl)
    · have KK:=K4.out;exact gX KK qe
 replace HS:=dX HS i4;replace Z:=D (bS (w2:=w4) Z.out qe);replace Y:=D (bS (w2:=w4) Y.out qe);replace eB:=D (jB (w2:=w4) eB.out qe);replace HB:av (Bt g w w4):=D qh;replace HR:=D R4;clear b4 R4;clear i4;go_wp2_with fail;refine(dL zLt _ (HR.out.low qe) (by decide)).mono ?_;rintro e w5 ⟨b5,⟨i5,rfl,R5⟩|⟨i5,rfl,R5⟩⟩
 · replace HS:=dY HS i5;replace Z:=D (bS (w2:=w5) Z.out qe);replace Y:=D (bS (w2:=w5) Y.out qe);replace eB:=D (jB (w2:=w5) eB.out qe);replace HB:av (Bt g w w5):=D qh;replace HR:=D R5;clear b5 R5;clear i5;have l0:U _ ⟨_,0,X⟩=C (.int .i64 x1.o):=Y.out.get rfl;have l1:U _ ⟨_,1,X⟩=C (.string x1.s):=Y.out.get rfl;have l2:U _ ⟨_,2,X⟩=C (.int .i64 x1.n):=Y.out.get rfl;have l3:U _ ⟨_,3,X⟩=C (.slice p1 m1 c1):=Y.out.get rfl;have fz:∀i,af _ ⟨_,i,X⟩=false:=fun i=>df (i:=i) Y.out;go_wp2_with fail;go_region_with (first|(go_at_call 142;refine(yB _ _ _ _ _).mono ?_;rintro e' wb ⟨rfl,hb4⟩;have q4:Bt g _ wb:=bR.of hb4;have sb:bT wb w.heap.size 41 #[.int .i64 0,.string ⟨#[]⟩,.int .i64 0,.slice X 0 0]:=bS sa qe;have y0:U wb ⟨w.heap.size,0,X⟩=C (.int .i64 0):=sb.get rfl;have y1:U wb ⟨w.heap.size,1,X⟩=C (.string ⟨#[]⟩):=sb.get rfl;have y2:U wb ⟨w.heap.size,2,X⟩=C (.int .i64 0):=sb.get rfl;have y3:U wb ⟨w.heap.size,3,X⟩=C (.slice X 0 0):=sb.get rfl;have Er:∀i,af wb ⟨w.heap.size,i,X⟩=false:=fun i=>df (i:=i) sb)|(refine(HC.out _ _ (HR.out.low qe) Hu).mono ?_;rintro e' wa h3;rcases h3.cases with⟨x3,u3,v3,r3,rfl,b3,V3,R3⟩|⟨u3,r3,rfl,b3⟩;rotate_left 1;(have bU:=HB.out;exact⟨rfl,PO.no (dJ HS (by assumption)) qe⟩);obtain⟨p3,m3,c3,rfl,k3⟩:=V3;dsimp only [cu];have sa:bT wa w.heap.size 41 #[.int .i64 0,.string ⟨#[]⟩,.int .i64 0,.slice X 0 0]:=bS (w2:=wa) Z.out qe;have s3:=bS (w2:=wa) Y.out Ht;have m0:U wa ⟨w1.heap.size,0,X⟩=C (.int .i64 x1.o):=s3.get rfl;have vG:U wa ⟨w1.heap.size,1,X⟩=C (.string x1.s):=s3.get rfl;have vH:U wa ⟨w1.heap.size,2,X⟩=C (.int .i64 x1.n):=s3.get rfl;have vI:U wa ⟨w1.heap.size,3,X⟩=C (.slice p1 m1 c1):=s3.get rfl))
   all_goals
    have z2:=Y.out.lt;have HS2:=bY HS r3;have uu:w5.heap.size<=wa.heap.size:=b3.size;have KE:bW (fun b=>w.heap.size<b) wa x1 p1 m1:=jB (w2:=wa) eB.out qe;have KX:bW (fun b=>w.heap.size<b) wa x3 p3 m3:=k3.mono fun b hb hlt=>by
     have hb2:w5.heap.size<=b:=hb;omega
    have KN:=yw (c:=c1) (d:=c3) 16 KE KX Hz;have K4:av (bW (fun b=>w.heap.size<b) wb (jl 16 x1 x3) (C ⟨wa.heap.size,0,X⟩) 2):=D (Ex.bW.map hb4.size (fun b hb hlt=>⟨hb,hb4.block b hlt⟩) _ KN);replace Z:=D sb;have R4:Rd L g u3 wb:=R3.low Hw;replace HB:av (Bt g w wb):=D qh;replace HR:=D R4;clear KE KX KN uu r3 k3 h3 R3 R4 b3 hb4 q4 sb sa s3 m0 vG vH vI l0 l1 l2 l3 fz;go_wp2_with fail;have bU:=HB.out;refine ah (v:=.agg (cu (jl 16 x1 x3) (C ⟨wa.heap.size,0,X⟩) 2 2)) ?_ rfl (PO.ok (dA HS2) qe ⟨(C ⟨wa.heap.size,0,X⟩),2,2,rfl,?_⟩ (HR.out.low qe))
    · exact ag rfl _ _ w.heap.size 41 _ (0,0) _ rfl (lu Z.out rfl) Tryz.underlying41 rfl (by kernel_rfl)
    · have KK:=K4.out;exact gX KK qe
 replace HS:=dX HS i5;replace Z:=D (bS (w2:=w5) Z.out qe);replace Y:=D (bS (w2:=w5) Y.out qe);replace eB:=D (jB (w2:=w5) eB.out qe);replace HB:av (Bt g w w5):=D qh;replace HR:=D R5;clear b5 R5;clear i5;go_wp2_with fail;refine(dL zLe _ (HR.out.low qe) (by decide)).mono ?_;rintro e w6 ⟨b6,⟨i6,rfl,R6⟩|⟨i6,rfl,R6⟩⟩
 · replace HS:=dY HS i6;replace Z:=D (bS (w2:=w6) Z.out qe);replace Y:=D (bS (w2:=w6) Y.out qe);replace eB:=D (jB (w2:=w6) eB.out qe);replace HB:av (Bt g w w6):=D qh;replace HR:=D R6;clear b6 R6;clear i6;have l0:U _ ⟨_,0,X⟩=C (.int .i64 x1.o):=Y.out.get rfl;have l1:U _ ⟨_,1,X⟩=C (.string x1.s):=Y.out.get rfl;have l2:U _ ⟨_,2,X⟩=C (.int .i64 x1.n):=Y.out.get rfl;have l3:U _ ⟨_,3,X⟩=C (.slice p1 m1 c1):=Y.out.get rfl;have fz:∀i,af _ ⟨_,i,X⟩=false:=fun i=>df (i:=i) Y.out;go_wp2_with fail;go_region_with (first|(go_at_call 142;refine(yB _ _ _ _ _).mono ?_;rintro e' wb ⟨rfl,hb4⟩;have q4:Bt g _ wb:=bR.of hb4;have sb:bT wb w.heap.size 41 #[.int .i64 0,.string ⟨#[]⟩,.int .i64 0,.slice X 0 0]:=bS sa qe;have y0:U wb ⟨w.heap.size,0,X⟩=C (.int .i64 0):=sb.get rfl;have y1:U wb ⟨w.heap.size,1,X⟩=C (.string ⟨#[]⟩):=sb.get rfl;have y2:U wb ⟨w.heap.size,2,X⟩=C (.int .i64 0):=sb.get rfl;have y3:U wb ⟨w.heap.size,3,X⟩=C (.slice X 0 0):=sb.get rfl;have Er:∀i,af wb ⟨w.heap.size,i,X⟩=false:=fun i=>df (i:=i) sb)|(refine(HC.out _ _ (HR.out.low qe) Hu).mono ?_;rintro e' wa h3;rcases h3.cases with⟨x3,u3,v3,r3,rfl,b3,V3,R3⟩|⟨u3,r3,rfl,b3⟩;rotate_left 1;(have bU:=HB.out;exact⟨rfl,PO.no (dJ HS (by assumption)) qe⟩);obtain⟨p3,m3,c3,rfl,k3⟩:=V3;dsimp only [cu];have sa:bT wa w.heap.size 41 #[.int .i64 0,.string ⟨#[]⟩,.int .i64 0,.slice X 0 0]:=bS (w2:=wa) Z.out qe;have s3:=bS (w2:=wa) Y.out Ht;have m0:U wa ⟨w1.heap.size,0,X⟩=C (.int .i64 x1.o):=s3.get rfl;have vG:U wa ⟨w1.heap.size,1,X⟩=C (.string x1.s):=s3.get rfl;have vH:U wa ⟨w1.heap.size,2,X⟩=C (.int .i64 x1.n):=s3.get rfl;have vI:U wa ⟨w1.heap.size,3,X⟩=C (.slice p1 m1 c1):=s3.get rfl))
   all_goals
    have z2:=Y.out.lt;have HS2:=bY HS r3;have uu:w6.heap.size<=wa.heap.size:=b3.size;have KE:bW (fun b=>w.heap.size<b) wa x1 p1 m1:=jB (w2:=wa) eB.out qe;have KX:bW (fun b=>w.heap.size<b) wa x3 p3 m3:=k3.mono fun b hb hlt=>by
     have hb2:w6.heap.size<=b:=hb;omega
    have KN:=yw (c:=c1) (d:=c3) 17 KE KX Hz;have K4:av (bW (fun b=>w.heap.size<b) wb (jl 17 x1 x3) (C ⟨wa.heap.size,0,X⟩) 2):=D (Ex.bW.map hb4.size (fun b hb hlt=>⟨hb,hb4.block b hlt⟩) _ KN);replace Z:=D sb;have R4:Rd L g u3 wb:=R3.low Hw;replace HB:av (Bt g w wb):=D qh;replace HR:=D R4;clear KE KX KN uu r3 k3 h3 R3 R4 b3 hb4 q4 sb sa s3 m0 vG vH vI l0 l1 l2 l3 fz;go_wp2_with fail;have bU:=HB.out;refine ah (v:=.agg (cu (jl 17 x1 x3) (C ⟨wa.heap.size,0,X⟩) 2 2)) ?_ rfl (PO.ok (dA HS2) qe ⟨(C ⟨wa.heap.size,0,X⟩),2,2,rfl,?_⟩ (HR.out.low qe))
    · exact ag rfl _ _ w.heap.size 41 _ (0,0) _ rfl (lu Z.out rfl) Tryz.underlying41 rfl (by kernel_rfl)
    · have KK:=K4.out;exact gX KK qe
 replace HS:=dX HS i6;replace Z:=D (bS (w2:=w6) Z.out qe);replace Y:=D (bS (w2:=w6) Y.out qe);replace eB:=D (jB (w2:=w6) eB.out qe);replace HB:av (Bt g w w6):=D qh;replace HR:=D R6;clear b6 R6;clear i6;go_wp2_with fail;refine(dL zGt _ (HR.out.low qe) (by decide)).mono ?_;rintro e w7 ⟨b7,⟨i7,rfl,R7⟩|⟨i7,rfl,R7⟩⟩
 · replace HS:=dY HS i7;replace Z:=D (bS (w2:=w7) Z.out qe);replace Y:=D (bS (w2:=w7) Y.out qe);replace eB:=D (jB (w2:=w7) eB.out qe);replace HB:av (Bt g w w7):=D qh;replace HR:=D R7;clear b7 R7;clear i7;have l0:U _ ⟨_,0,X⟩=C (.int .i64 x1.o):=Y.out.get rfl;have l1:U _ ⟨_,1,X⟩=C (.string x1.s):=Y.out.get rfl;have l2:U _ ⟨_,2,X⟩=C (.int .i64 x1.n):=Y.out.get rfl;have l3:U _ ⟨_,3,X⟩=C (.slice p1 m1 c1):=Y.out.get rfl;have fz:∀i,af _ ⟨_,i,X⟩=false:=fun i=>df (i:=i) Y.out;go_wp2_with fail;go_region_with (first|(go_at_call 142;refine(yB _ _ _ _ _).mono ?_;rintro e' wb ⟨rfl,hb4⟩;have q4:Bt g _ wb:=bR.of hb4;have sb:bT wb w.heap.size 41 #[.int .i64 0,.string ⟨#[]⟩,.int .i64 0,.slice X 0 0]:=bS sa qe;have y0:U wb ⟨w.heap.size,0,X⟩=C (.int .i64 0):=sb.get rfl;have y1:U wb ⟨w.heap.size,1,X⟩=C (.string ⟨#[]⟩):=sb.get rfl;have y2:U wb ⟨w.heap.size,2,X⟩=C (.int .i64 0):=sb.get rfl;have y3:U wb ⟨w.heap.size,3,X⟩=C (.slice X 0 0):=sb.get rfl;have Er:∀i,af wb ⟨w.heap.size,i,X⟩=false:=fun i=>df (i:=i) sb)|(refine(HC.out _ _ (HR.out.low qe) Hu).mono ?_;rintro e' wa h3;rcases h3.cases with⟨x3,u3,v3,r3,rfl,b3,V3,R3⟩|⟨u3,r3,rfl,b3⟩;rotate_left 1;(have bU:=HB.out;exact⟨rfl,PO.no (dJ HS (by assumption)) qe⟩);obtain⟨p3,m3,c3,rfl,k3⟩:=V3;dsimp only [cu];have sa:bT wa w.heap.size 41 #[.int .i64 0,.string ⟨#[]⟩,.int .i64 0,.slice X 0 0]:=bS (w2:=wa) Z.out qe;have s3:=bS (w2:=wa) Y.out Ht;have m0:U wa ⟨w1.heap.size,0,X⟩=C (.int .i64 x1.o):=s3.get rfl;have vG:U wa ⟨w1.heap.size,1,X⟩=C (.string x1.s):=s3.get rfl;have vH:U wa ⟨w1.heap.size,2,X⟩=C (.int .i64 x1.n):=s3.get rfl;have vI:U wa ⟨w1.heap.size,3,X⟩=C (.slice p1 m1 c1):=s3.get rfl))
   all_goals
    have z2:=Y.out.lt;have HS2:=bY HS r3;have uu:w7.heap.size<=wa.heap.size:=b3.size;have KE:bW (fun b=>w.heap.size<b) wa x1 p1 m1:=jB (w2:=wa) eB.out qe;have KX:bW (fun b=>w.heap.size<b) wa x3 p3 m3:=k3.mono fun b hb hlt=>by
     have hb2:w7.heap.size<=b:=hb;omega
    have KN:=yw (c:=c3) (d:=c1) 16 KX KE Hz;have K4:av (bW (fun b=>w.heap.size<b) wb (jl 16 x3 x1) (C ⟨wa.heap.size,0,X⟩) 2):=D (Ex.bW.map hb4.size (fun b hb hlt=>⟨hb,hb4.block b hlt⟩) _ KN);replace Z:=D sb;have R4:Rd L g u3 wb:=R3.low Hw;replace HB:av (Bt g w wb):=D qh;replace HR:=D R4;clear KE KX KN uu r3 k3 h3 R3 R4 b3 hb4 q4 sb sa s3 m0 vG vH vI l0 l1 l2 l3 fz;go_wp2_with fail;have bU:=HB.out;refine ah (v:=.agg (cu (jl 16 x3 x1) (C ⟨wa.heap.size,0,X⟩) 2 2)) ?_ rfl (PO.ok (dA HS2) qe ⟨(C ⟨wa.heap.size,0,X⟩),2,2,rfl,?_⟩ (HR.out.low qe))
    · exact ag rfl _ _ w.heap.size 41 _ (0,0) _ rfl (lu Z.out rfl) Tryz.underlying41 rfl (by kernel_rfl)
    · have KK:=K4.out;exact gX KK qe
 replace HS:=dX HS i7;replace Z:=D (bS (w2:=w7) Z.out qe);replace Y:=D (bS (w2:=w7) Y.out qe);replace eB:=D (jB (w2:=w7) eB.out qe);replace HB:av (Bt g w w7):=D qh;replace HR:=D R7;clear b7 R7;clear i7;go_wp2_with fail;refine(dL zGe _ (HR.out.low qe) (by decide)).mono ?_;rintro e w8 ⟨b8,⟨i8,rfl,R8⟩|⟨i8,rfl,R8⟩⟩
 · replace HS:=dY HS i8;replace Z:=D (bS (w2:=w8) Z.out qe);replace Y:=D (bS (w2:=w8) Y.out qe);replace eB:=D (jB (w2:=w8) eB.out qe);replace HB:av (Bt g w w8):=D qh;replace HR:=D R8;clear b8 R8;clear i8;have l0:U _ ⟨_,0,X⟩=C (.int .i64 x1.o):=Y.out.get rfl;have l1:U _ ⟨_,1,X⟩=C (.string x1.s):=Y.out.get rfl;have l2:U _ ⟨_,2,X⟩=C (.int .i64 x1.n):=Y.out.get rfl;have l3:U _ ⟨_,3,X⟩=C (.slice p1 m1 c1):=Y.out.get rfl;have fz:∀i,af _ ⟨_,i,X⟩=false:=fun i=>df (i:=i) Y.out;go_wp2_with fail;go_region_with (first|(go_at_call 142;refine(yB _ _ _ _ _).mono ?_;rintro e' wb ⟨rfl,hb4⟩;have q4:Bt g _ wb:=bR.of hb4;have sb:bT wb w.heap.size 41 #[.int .i64 0,.string ⟨#[]⟩,.int .i64 0,.slice X 0 0]:=bS sa qe;have y0:U wb ⟨w.heap.size,0,X⟩=C (.int .i64 0):=sb.get rfl;have y1:U wb ⟨w.heap.size,1,X⟩=C (.string ⟨#[]⟩):=sb.get rfl;have y2:U wb ⟨w.heap.size,2,X⟩=C (.int .i64 0):=sb.get rfl;have y3:U wb ⟨w.heap.size,3,X⟩=C (.slice X 0 0):=sb.get rfl;have Er:∀i,af wb ⟨w.heap.size,i,X⟩=false:=fun i=>df (i:=i) sb)|(refine(HC.out _ _ (HR.out.low qe) Hu).mono ?_;rintro e' wa h3;rcases h3.cases with⟨x3,u3,v3,r3,rfl,b3,V3,R3⟩|⟨u3,r3,rfl,b3⟩;rotate_left 1;(have bU:=HB.out;exact⟨rfl,PO.no (dJ HS (by assumption)) qe⟩);obtain⟨p3,m3,c3,rfl,k3⟩:=V3;dsimp only [cu];have sa:bT wa w.heap.size 41 #[.int .i64 0,.string ⟨#[]⟩,.int .i64 0,.slice X 0 0]:=bS (w2:=wa) Z.out qe;have s3:=bS (w2:=wa) Y.out Ht;have m0:U wa ⟨w1.heap.size,0,X⟩=C (.int .i64 x1.o):=s3.get rfl;have vG:U wa ⟨w1.heap.size,1,X⟩=C (.string x1.s):=s3.get rfl;have vH:U wa ⟨w1.heap.size,2,X⟩=C (.int .i64 x1.n):=s3.get rfl;have vI:U wa ⟨w1.heap.size,3,X⟩=C (.slice p1 m1 c1):=s3.get rfl))
   all_goals
    have z2:=Y.out.lt;have HS2:=bY HS r3;have uu:w8.heap.size<=wa.heap.size:=b3.size;have KE:bW (fun b=>w.heap.size<b) wa x1 p1 m1:=jB (w2:=wa) eB.out qe;have KX:bW (fun b=>w.heap.size<b) wa x3 p3 m3:=k3.mono fun b hb hlt=>by
     have hb2:w8.heap.size<=b:=hb;omega
    have KN:=yw (c:=c3) (d:=c1) 17 KX KE Hz;have K4:av (bW (fun b=>w.heap.size<b) wb (jl 17 x3 x1) (C ⟨wa.heap.size,0,X⟩) 2):=D (Ex.bW.map hb4.size (fun b hb hlt=>⟨hb,hb4.block b hlt⟩) _ KN);replace Z:=D sb;have R4:Rd L g u3 wb:=R3.low Hw;replace HB:av (Bt g w wb):=D qh;replace HR:=D R4;clear KE KX KN uu r3 k3 h3 R3 R4 b3 hb4 q4 sb sa s3 m0 vG vH vI l0 l1 l2 l3 fz;go_wp2_with fail;have bU:=HB.out;refine ah (v:=.agg (cu (jl 17 x3 x1) (C ⟨wa.heap.size,0,X⟩) 2 2)) ?_ rfl (PO.ok (dA HS2) qe ⟨(C ⟨wa.heap.size,0,X⟩),2,2,rfl,?_⟩ (HR.out.low qe))
    · exact ag rfl _ _ w.heap.size 41 _ (0,0) _ rfl (lu Z.out rfl) Tryz.underlying41 rfl (by kernel_rfl)
    · have KK:=K4.out;exact gX KK qe
 replace HS:=dX HS i8;replace Z:=D (bS (w2:=w8) Z.out qe);replace Y:=D (bS (w2:=w8) Y.out qe);replace eB:=D (jB (w2:=w8) eB.out qe);replace HB:av (Bt g w w8):=D qh;replace HR:=D R8;clear b8 R8;clear i8;have l0:U _ ⟨_,0,X⟩=C (.int .i64 x1.o):=Y.out.get rfl;have l1:U _ ⟨_,1,X⟩=C (.string x1.s):=Y.out.get rfl;have l2:U _ ⟨_,2,X⟩=C (.int .i64 x1.n):=Y.out.get rfl;have l3:U _ ⟨_,3,X⟩=C (.slice p1 m1 c1):=Y.out.get rfl;have y0:U _ ⟨_,0,X⟩=C (.int .i64 0):=Z.out.get rfl;have y1:U _ ⟨_,1,X⟩=C (.string ⟨#[]⟩):=Z.out.get rfl;have y2:U _ ⟨_,2,X⟩=C (.int .i64 0):=Z.out.get rfl;have y3:U _ ⟨_,3,X⟩=C (.slice X 0 0):=Z.out.get rfl;have fz:∀i,af _ ⟨_,i,X⟩=false:=fun i=>df (i:=i) Z.out;go_wp2_with fail;have bU:=HB.out;refine ah (v:=.agg (cu (x1) (p1) m1 c1)) ?_ rfl (PO.ok (dA HS) qe ⟨(p1),m1,c1,rfl,?_⟩ (HR.out.low qe))
 · exact ag rfl _ _ w.heap.size 41 _ (0,0) _ rfl (lu Z.out rfl) Tryz.underlying41 rfl (by kernel_rfl)
 · have KK:=eB.out;exact gX KK qe
end
end Ps
namespace Ps
open Ps.P (rt fl bd acc see kd exp len)
open Lx (Tk bs mt)
open Ex (Ex)
structure Sat {α:Type} (Q:α->Prop) (m:P α):Prop where
 out:∀{t u:List Tk} {x:α},Gd t->run m t=.ok x u->Q x/\Gd u
section
variable {α β:Type} {Q:α->Prop} {Q':β->Prop} {m:P β} {k:β->P α} {A B:P α} {s:ByteArray}
theorem Sat.dn {n:Nat} {m:P α} (h:Dn n m):Sat (fun _=>True) m:=⟨fun g e=>⟨trivial,(h.out g e).1⟩⟩
theorem Sat.imp {Q2:α->Prop} {m:P α} (h:Sat Q m) (hi:∀x,Q x->Q2 x):Sat Q2 m:=⟨fun g e=>⟨hi _ (h.out g e).1,(h.out g e).2⟩⟩
theorem Sat.rt {x:α} (h:Q x):Sat Q (rt x):=⟨fun g e=>by rw[zL] at e;cases e;exact⟨h,g⟩⟩
theorem Sat.fl:Sat Q (fl:P α):=⟨fun g e=>by rw[Vu] at e;cases e⟩
theorem Sat.bd (h:Sat Q' m) (hk:∀x,Q' x->Sat Q (k x)):Sat Q (bd m k):=by
 refine⟨fun {t u x} g e=>?_⟩
 cases hm:run m t with
 | ok y v=>
  rw[fD hm] at e;obtain⟨h1,h2⟩:=h.out g hm;exact(hk y h1).out h2 e
 | no v=>rw[fQ hm] at e;cases e
theorem Sat.len {f:Nat->β->α} (h:Sat Q' m) (hf:∀d x,Q' x->Q (f d x)):Sat Q (len m f):=by
 refine⟨fun {t u x} g e=>?_⟩
 cases hm:run m t with
 | ok y v=>rw[OW hm] at e;cases e;obtain⟨h1,h2⟩:=h.out g hm;exact⟨hf _ _ h1,h2⟩
 | no v=>rw[OV hm] at e;cases e
theorem Sat.acc (hs:¬bs s=[]) (hA:Sat Q A) (hB:Sat Q B):Sat Q (acc s A B):=by
 refine⟨fun {t u x} g e=>?_⟩
 cases hi:is s t with
 | true=>rw[FW hi] at e;exact hA.out (Cw g hs hi).1 e
 | false=>rw[D_ hi] at e;exact hB.out g e
theorem Sat.see (hA:Sat Q A) (hB:Sat Q B):Sat Q (see s A B):=by
 refine⟨fun {t u x} g e=>?_⟩
 cases hi:is s t with
 | true=>rw[KY hi] at e;exact hA.out g e
 | false=>rw[KW hi] at e;exact hB.out g e
theorem Sat.kd {j:Int} (hA:Sat Q A) (hB:Sat Q B):Sat Q (kd j A B):=by
 refine⟨fun {t u x} g e=>?_⟩;by_cases hi:(hd t).k=j
 · rw[GH hi] at e;exact hA.out g e
 · rw[GG hi] at e;exact hB.out g e
end
def Bn (n:Int):Prop:=-1000000000000<=n/\n<=1000000000000
theorem aqK:Sat (fun n=>0<=n/\n<=1000000000000) num:=by
 refine⟨fun {t u x} g e=>?_⟩;by_cases hi:(hd t).k=2
 · have e2:run num t=.ok (hd t).n t.tail:=by unfold num;rw[fD (Bv hi)];rfl
   rw[e2] at e;cases e
   exact⟨g.wf.n,(g.tail (by omega)).1⟩
 · have e2:run num t=.no t:=by unfold num;rw[fQ (Dx hi)]
   rw[e2] at e;cases e
def QE (e:Ex):Prop:=(e.o=5->∃s m y,e=.mk 5 s m [y]/\Bn y.n)/\Bn e.n
theorem F_:Bn 0:=by unfold Bn;omega
theorem Dg {o:Int} {x y:Ex} (h:¬o=5):QE (jl o x y):=⟨fun e=>absurd e h,F_⟩
theorem Vb {o:Int} {x:Ex} (hx:QE x):QE (uh o x):=⟨fun e=>⟨mt,0,x,by have e:o=5:=e;rw[e];rfl,hx.2⟩,F_⟩
theorem ET {o n:Int} {s:ByteArray} (h:¬o=5) (hn:Bn n):QE (.mk o s n []):=⟨fun e=>absurd e h,hn⟩
theorem ae4 {α:Type} {Q:α->Prop} {A:Int->P α} {B:P α} (hB:Sat Q B):∀{os:List (ByteArray×Int)},(∀q∈os,Sat Q (A q.2))->(∀q∈os,¬bs q.1=[])->Sat Q (zG A B os)
 | [],_,_=>hB
 | q::r,hA,hs=>.acc (hs q (.head _)) (hA q (.head _)) (ae4 hB (fun p hp=>hA p (.tail _ hp)) fun p hp=>hs p (.tail _ hp))
section
variable {m:P Ex} {os:List (ByteArray×Int)}
theorem ae0 (h:Sat QE m) (hs:∀q∈os,¬bs q.1=[]) (h5:∀q∈os,¬q.2=5):∀n e,QE e->Sat QE (wI m os n e)
 | 0,_,_=>.fl
 | n+1,e,he=>ae4 (.rt he) (fun q hq=>.bd h fun y _=>ae0 h hs h5 n _ (Dg (h5 q hq))) hs
theorem Qc (h:Sat QE m) (hs:∀q∈os,¬bs q.1=[]) (h5:∀q∈os,¬q.2=5):Sat QE (zi m os):=.bd h fun e he=>ae0 h hs h5 FU e he
end
section
variable {E F N:P Ex}
theorem ae3 (h:Sat QE E) (o:Int):Sat QE (one E o):=.bd (.dn (.exp (by decide):Dn 1 _)) fun _ _=>.bd h fun x hx=>.bd (.dn (.exp (by decide):Dn 1 _)) fun _ _=>.rt (Vb hx)
theorem ae6 (h:Sat QE E) {o:Int} (ho:¬o=5):Sat QE (two E o):=.bd (.dn (.exp (by decide):Dn 1 _)) fun _ _=>.bd h fun x hx=>.bd (.dn (.exp (by decide):Dn 1 _)) fun _ _=>.bd h fun y hy=>.bd (.dn (.exp (by decide):Dn 1 _)) fun _ _=>.rt (Dg ho)
theorem VK {o:Int} (ho:¬o=5):Sat QE (zF o):=.bd (.dn (.exp (by decide):Dn 1 _)) fun _ _=>.bd (.dn mJ) fun s _=>.bd (.dn (.exp (by decide):Dn 1 _)) fun _ _=>.rt (ET ho F_)
theorem apN {d:Nat} {e:Ex} (h:QE e):QE (neg d e):=by
 unfold neg
 split
 · obtain⟨s,m,y,he,hy⟩:=h.1 rfl;injection he with _ _ _ he;injection he with he;subst he;exact ET (by decide) (by unfold Bn at hy ⊢; simp only[Ex.n] at hy;omega)
 · exact h
theorem aqJ (h:Sat QE E):Sat QE (AB E):=.len (Q':=QE) (.bd (.dn (.exp (by decide):Dn 1 _)) fun _ _=>.bd h fun x hx=>.bd (.dn (.exp (by decide):Dn 1 _)) fun _ _=>.rt hx) fun d x hx=>apN hx
theorem ae5:Sat Bn vW:=.acc (by decide) (.rt (by unfold Bn;omega)) (.bd (.dn (.exp (by decide):Dn 1 _)) fun _ _=>.rt F_)
theorem aqL (h:Sat QE E):Sat QE (De E):=
 .kd (.bd aqK fun n hn=>.rt (ET (by decide) (by unfold Bn;omega))) <|
 .see (.bd ae5 fun n hn=>.rt (ET (by decide) hn)) <|
 .see (.bd ae5 fun n hn=>.rt (ET (by decide) hn)) <|
 .acc (by decide) (.rt (ET (by decide) F_)) <|
 .acc (by decide) (ae3 h 7) <|
 .acc (by decide) (ae3 h 8) <|
 .acc (by decide) (ae6 h (by decide)) <|
 .acc (by decide) (ae6 h (by decide)) <|
 .acc (by decide) (VK (by decide)) <|
 .acc (by decide) (VK (by decide)) <|
 .acc (by decide) (VK (by decide)) <|
 .see (aqJ h) <|
 .bd (.dn mJ) fun s _=>.rt (ET (by decide) F_)
theorem VJ (h:Sat QE E) (hF:Sat QE F):Sat QE (x_ E F):=.acc (by decide) (.bd hF fun x hx=>.rt (Vb hx)) (aqL h)
theorem Ff (h:Sat QE F):Sat QE (sum F):=Qc (Qc h (by decide) (by decide)) (by decide) (by decide)
theorem aqH (h:Sat QE F):Sat QE (cmp F):=.bd (Ff h) fun x hx=>
 .acc (by decide) (.bd (Ff h) fun y hy=>.rt (Dg (by decide))) <|
 .acc (by decide) (.bd (Ff h) fun y hy=>.rt (Dg (by decide))) <|
 .acc (by decide) (.bd (Ff h) fun y hy=>.rt (Dg (by decide))) <|
 .acc (by decide) (.bd (Ff h) fun y hy=>.rt (Dg (by decide))) <|
 .acc (by decide) (.bd (Ff h) fun y hy=>.rt (Dg (by decide))) <|
 .acc (by decide) (.bd (Ff h) fun y hy=>.rt (Dg (by decide))) <|
 .rt hx
theorem ae2 (h:Sat QE F) (hN:Sat QE N):Sat QE (Ba F N):=.acc (by decide) (.bd hN fun x hx=>.rt (Vb hx)) (aqH h)
theorem aqI (h:Sat QE N):Sat QE (Ck N):=Qc (Qc h (by decide) (by decide)) (by decide) (by decide)
theorem ae1:∀n,Sat QE (fF n)/\Sat QE (fN n)/\Sat QE (fE n)
 | 0=>by rw[fF,fN,fE];exact⟨.fl,.fl,.fl⟩
 | n+1=>by
  obtain⟨h1,h2,h3⟩:=ae1 n;rw[fF,fN,fE];exact⟨VJ h3 h1,ae2 (VJ h3 h1) h2,aqI (ae2 (VJ h3 h1) h2)⟩
end
theorem al4 (n:Nat):∀u x v,Gd u->run (fE n) u=.ok x v->x.o=5->∃s m y,x=.mk 5 s m [y]/\-1000000000000<=y.n/\y.n<=1000000000000:=fun u x v g e ho=>((ae1 n).2.2.out g e).1.1 ho
end Ps
namespace Ps
open Go.RowKit
open Lx (Tk)
open Ex (Ex bW)
open Md (bT)
set_option maxHeartbeats 600000
section
variable {L:Lk} {g:Nat} {t:List Tk} {n:Nat}
set_option maxRecDepth 100000 in
theorem aoO (hX:XC L g n) (w:ai) (hR:Rd L g t w) (hn:t.length<=n) (hC:∀W u,Rd L g u W->u.length<=t.length->ak ae 208 #[.pointer (C ⟨g,0,X⟩)] W (PO L g VX (run (fF (n+1)) u) W)):ak ae 143 #[.pointer (C ⟨g,0,X⟩)] w (PO L g VX (run (fN (n+1)) t) w):=by
 have HX:=D hX;have HC:av (∀W u,Rd L g u W->u.length<=t.length->ak ae 197 #[.pointer (C ⟨g,0,X⟩)] W (PO L g VX (run (sum (fF (n+1))) u) W)):=D fun W u hW hu=>ar0 (aan _) W hW fun W' u' hW' hu'=>hC W' u' hW' (aj hu' hu);have HD:av (is Uy t=true->t.tail.length<n):=D fun h=>by have h2:=hR.gd.ne;rw[List.length_tail];omega
 rw[abg];clear hX hn hC;obtain⟨r,hr⟩:∃r,run (Ba (fF (n+1)) (fN n)) t=r:=⟨_,rfl⟩
 rw[hr];have HS:=D hr;have hg:=hR.blk;have HR:=D hR;have HB:av (Bt g w w):=D (bR.refl _ _);clear hR hr;have Z:=D (bT.new (w:=w) (t:=41) (c:=#[.int .i64 0,.string ⟨#[]⟩,.int .i64 0,.slice X 0 0]));go_enter Tryz.func143,Tryz.ntmps143;go_wp2_with fail;refine(dL Uy _ (HR.out.low qe) (by decide)).mono ?_;rintro e w1 ⟨b1,⟨i1,rfl,R1⟩|⟨i1,rfl,R1⟩⟩
 · have HT:=D (HD.out i1);replace HS:=dY HS i1;replace Z:=D (bS (w2:=w1) Z.out qe);replace HB:av (Bt g w w1):=D qh;replace HR:=D R1;clear b1 R1;clear i1;go_wp2_with fail;have hz1:=Z.out.lt;refine(HX.out.xn _ _ (HR.out.low qe) HT.out).mono ?_;rintro e w2 h2;rcases h2.cases with⟨x2,u2,v2,r2,rfl,b2,V2,R2⟩|⟨u2,r2,rfl,b2⟩
   rotate_left 1
   · have bU:=HB.out;go_wp2_with fail;exact⟨rfl,PO.no (dJ HS (by assumption)) qe⟩
   replace HS:=bY HS r2;replace Z:=D (bS (w2:=w2) Z.out qe);replace HB:av (Bt g w w2):=D qh;replace HR:=D R2;clear b2 R2;clear r2 h2;obtain⟨p2,m2,c2,rfl,k2⟩:=V2;have jJ:av (bW (fun b=>w.heap.size<b) w2 x2 p2 m2):=D (k2.mono fun b hb hlt=>(by have hb':_<=b:=hb;first|(simp at hb';omega)|omega));clear k2;dsimp only [cu];go_wp2_with fail;refine(yB _ _ _ _ _).mono ?_;rintro e w3 ⟨rfl,hb3⟩;have b3:Bt g _ w3:=bR.of hb3;have R3:Rd L g u2 w3:=HR.out.low (by have q:Lw g _ w3:=bR.of hb3;exact qe);have hzz:=Z.out.lt;have KN:av (bW (fun b=>w.heap.size<b) w3 (uh 6 x2) (C ⟨w2.heap.size,0,X⟩) 1):=D (Ex.bW.map hb3.size (fun b hb hlt=>⟨hb,hb3.block b hlt⟩) _ (JZ (c:=c2) 6 jJ.out hzz));replace Z:=D (bS (w2:=w3) Z.out qe);replace HB:av (Bt g w w3):=D qh;replace HR:=D R3;clear b3 R3;clear hb3;have y0:U _ ⟨_,0,X⟩=C (.int .i64 0):=Z.out.get rfl;have y1:U _ ⟨_,1,X⟩=C (.string ⟨#[]⟩):=Z.out.get rfl;have y2:U _ ⟨_,2,X⟩=C (.int .i64 0):=Z.out.get rfl;have y3:U _ ⟨_,3,X⟩=C (.slice X 0 0):=Z.out.get rfl;have fz:∀i,af _ ⟨_,i,X⟩=false:=fun i=>df (i:=i) Z.out;go_wp2_with fail;have bU:=HB.out;refine ah (v:=.agg (cu (uh 6 x2) (C ⟨w2.heap.size,0,X⟩) 1 1)) ?_ rfl (PO.ok (dA HS) qe ⟨(C ⟨w2.heap.size,0,X⟩),1,1,rfl,?_⟩ (HR.out.low qe))
   · exact ag rfl _ _ w.heap.size 41 _ (0,0) _ rfl (lu Z.out rfl) Tryz.underlying41 rfl (by kernel_rfl)
   · have KK:=KN.out;exact gX KK qe
 replace HS:=dX HS i1;replace Z:=D (bS (w2:=w1) Z.out qe);replace HB:av (Bt g w w1):=D qh;replace HR:=D R1;clear b1 R1;clear i1;go_wp2_with fail;have hz2:=Z.out.lt;refine(akB (aan _) _ (HR.out.low qe) HC.out).mono ?_;rintro e w2 h2;rcases h2.cases with⟨x2,u2,v2,r2,rfl,b2,V2,R2⟩|⟨u2,r2,rfl,b2⟩
 rotate_left 1
 · have bU:=HB.out;go_wp2_with fail;exact⟨rfl,PO.no (HS.out.symm.trans r2) qe⟩
 have HL2:=D (HS.out.symm.trans r2);replace Z:=D (bS (w2:=w2) Z.out qe);replace HB:av (Bt g w w2):=D qh;replace HR:=D R2;clear b2 R2;clear r2 h2;obtain⟨p2,m2,c2,rfl,k2⟩:=V2;have jJ:av (bW (fun b=>w.heap.size<b) w2 x2 p2 m2):=D (k2.mono fun b hb hlt=>(by have hb':_<=b:=hb;first|(simp at hb';omega)|omega));clear k2;dsimp only [cu];have y0:U _ ⟨_,0,X⟩=C (.int .i64 0):=Z.out.get rfl;have y1:U _ ⟨_,1,X⟩=C (.string ⟨#[]⟩):=Z.out.get rfl;have y2:U _ ⟨_,2,X⟩=C (.int .i64 0):=Z.out.get rfl;have y3:U _ ⟨_,3,X⟩=C (.slice X 0 0):=Z.out.get rfl;have fz:∀i,af _ ⟨_,i,X⟩=false:=fun i=>df (i:=i) Z.out;go_wp2_with fail;have bU:=HB.out;refine ah (v:=.agg (cu (x2) (p2) m2 c2)) ?_ rfl (PO.ok HL2.out qe ⟨(p2),m2,c2,rfl,?_⟩ (HR.out.low qe))
 · exact ag rfl _ _ w.heap.size 41 _ (0,0) _ rfl (lu Z.out rfl) Tryz.underlying41 rfl (by kernel_rfl)
 · have KK:=jJ.out;exact gX KK qe
theorem afP (L:Lk) (g:Nat):∀n,XC L g n
 | 0=>⟨fun W u _ h=>absurd h (Nat.not_lt_zero _),fun W u _ h=>absurd h (Nat.not_lt_zero _),fun W u _ h=>absurd h (Nat.not_lt_zero _)⟩
 | n+1=>by
  have hX:=afP L g n;have hF:∀W u,Rd L g u W->u.length<=n->ak ae 208 #[.pointer (C ⟨g,0,X⟩)] W (PO L g VX (run (fF (n+1)) u) W):=fun W u hR hn=>by rw[abf];exact al5 hX (al4 n) W hR hn
  have hN:∀W u,Rd L g u W->u.length<=n->ak ae 143 #[.pointer (C ⟨g,0,X⟩)] W (PO L g VX (run (fN (n+1)) u) W):=fun W u hR hn=>aoO hX W hR hn fun W' u' hR' hu'=>hF W' u' hR' (aj hu' hn);have hE:∀W u,Rd L g u W->u.length<=n->ak ae 53 #[.pointer (C ⟨g,0,X⟩)] W (PO L g VX (run (fE (n+1)) u) W):=fun W u hR hn=>by rw[abe];exact al3 (akX _) W hR fun W' u' hR' hu'=>hN W' u' hR' (aj hu' hn)
  exact⟨fun W u hR h=>hE W u hR (by omega),fun W u hR h=>hN W u hR (by omega),fun W u hR h=>hF W u hR (by omega)⟩
theorem BD (w:ai) (hR:Rd L g t w):ak ae 53 #[.pointer (C ⟨g,0,X⟩)] w (PO L g VX (run kF t) w):=(afP L g FU).xe w t hR (by have:=hR.small;unfold FU;omega)
end
end Ps
namespace Ps
open Ps.P (len)
open Go.RowKit
open Lx (Tk)
open Ex (bW)
open Md (bT)
set_option maxHeartbeats 1000000
def TZ (g:Nat) (k:Int) (t:List Tk) (w:ai) (e:Ending) (w':ai):Prop:=
 Bt g w w'/\(((hd t).k=k/\e=.returned (tv (hd t)))∨(¬(hd t).k=k/\e=.panicked (yz (hd t).l)))
def PE {α:Type} (g:Nat) (V:Nat->ai->α->au->Prop) (r:R α) (w:ai) (e:Ending) (w':ai):Prop:=
 Bt g w w'/\match r with
  | .ok x u=>∃v,e=.returned v/\V w.heap.size w' x v
  | .no u=>e=.panicked (yz (hd u).l)
section
variable {α:Type} {g:Nat} {V:Nat->ai->α->au->Prop} {r:R α} {w w':ai} {e:Ending} {x:α} {u:List Tk} {v:au}
theorem PE.ok (hr:r=.ok x u) (hb:Bt g w w') (hV:V w.heap.size w' x v):PE g V r w (.returned v) w':=by subst hr;exact⟨hb,v,rfl,hV⟩
theorem PE.no (hr:r=.no u) (hb:Bt g w w'):PE g V r w (.panicked (yz (hd u).l)) w':=by subst hr;exact⟨hb,rfl⟩
theorem PE.cases (h:PE g V r w e w'):(∃x u v,r=.ok x u/\e=.returned v/\Bt g w w'/\V w.heap.size w' x v)∨(∃u,r=.no u/\e=.panicked (yz (hd u).l)/\Bt g w w'):=by
 obtain⟨hb,h⟩:=h
 cases r with
 | ok x u=>obtain⟨v,h1,h2⟩:=h;exact .inl ⟨x,u,v,rfl,h1,hb,h2⟩
 | no u=>exact .inr ⟨u,rfl,h,hb⟩
end
section
variable {L:Lk} {g:Nat} {t:List Tk}
set_option maxRecDepth 100000 in
theorem ar5 (k:Int) (w:ai) (hR:Rd L g t w):ak ae 60 #[.pointer (C ⟨g,0,X⟩),.int .i64 k] w (TZ g k t w):=by
 have C1:=D (fun W (hW:Below w.heap.size w W)=>zT W (hR.low (bR.of hW)));have C2:=D (fun W (hW:Below w.heap.size w W)=>BC W (hR.low (bR.of hW)));have hg:=hR.blk;have HR:=D hR;obtain⟨l1,l2,l3⟩:=hR.len;have l4:=hR.few;obtain⟨j,hj⟩:∃j,L.at t=j:=⟨_,rfl⟩
 obtain⟨x,hx⟩:∃x,hd t=x:=⟨_,rfl⟩
 unfold tv at C1;rw[hx] at C1 C2;have HX:=D hx;have HJ:=D hj;by_cases h:x.k=k
 · have hb:(x.k != k)=false:=by simp[h]
   have hw:IntKind.i64.wrap ((j:Int)+1)=(j:Int)+1:=by rw[IntKind.wrap_i64];omega
   have HK:=D h;clear hR l1 l2 l3 l4 hx hj h;go_enter Tryz.func60,Tryz.ntmps60;go_wp2_with fail;refine(C1.out _ bl).mono ?_;rintro e w1 ⟨rfl,hb1⟩;have hB1:Below w.heap.size w w1:=bl;have b4:bT w1 w.heap.size 135 _:=bT.new.on hb1;have b5:bT (w1.alloc (.cells #[.int .i64 x.k,.string x.t,.int .i64 x.n,.int .i64 x.l] 135)) w1.heap.size 135 _:=bT.new;have hs1:=b4.lt;have r1:Rd L g t (w1.alloc (.cells #[.int .i64 x.k,.string x.t,.int .i64 x.n,.int .i64 x.l] 135)):=HR.out.low (bR.of bl);have c1:=r1.c1;rw[HJ.out] at c1;have f1:=r1.tZ (i:=1);obtain⟨B,hB⟩:∃B,(w1.alloc (.cells #[.int .i64 x.k,.string x.t,.int .i64 x.n,.int .i64 x.l] 135)).setCell ⟨g,1,X⟩ (.int .i64 ((j:Int)+1))=B:=⟨_,rfl⟩
   have e1:Bt g (w1.alloc (.cells #[.int .i64 x.k,.string x.t,.int .i64 x.n,.int .i64 x.l] 135)) B:=by rw[← hB];exact Su
   have d5:bT B w1.heap.size 135 _:=fA b5 e1 (by omega);have d4:bT B w.heap.size 135 _:=fA (b4.on bl) e1 (by omega);have l0:=d5.get (r:=0) rfl;have l1:=d5.get (r:=1) rfl;have l2:=d5.get (r:=2) rfl;have l3:=d5.get (r:=3) rfl;have p0:=d4.get (r:=0) rfl;have p1:=d4.get (r:=1) rfl;have p2:=d4.get (r:=2) rfl;have p3:=d4.get (r:=3) rfl;have fz:∀i,B.frozen? ⟨w.heap.size,i,X⟩=false:=fun i=>df d4;have D4:=D d4;have HE:=D e1;have HB1:=D hB1;clear e1 r1 d5 d4 b5 b4 hB1 hb1;go_wp2_with fail;have b6:=lu (a:=.int .i64 x.k) (b:=.string x.t) (c:=.int .i64 x.n) (d:=.int .i64 x.l) D4.out rfl;have bU:=HB1.out;have jr:=HE.out;refine ah (v:=tv x) ?_ rfl ⟨?_,.inl ⟨by rw[HX.out,HK.out],by rw[HX.out]⟩⟩
   · exact ag rfl _ _ w.heap.size 135 _ (0,0) _ rfl b6 Tryz.underlying135 rfl (by kernel_rfl)
   · have q:Bt g w w1:=bR.of bU;exact qe
 · have hb:(x.k != k)=true:=by simp[h]
   have HK:=D h;clear hR l1 l2 l3 l4 hx hj h;go_enter Tryz.func60,Tryz.ntmps60;go_wp2_with fail;refine(C1.out _ bl).mono ?_;rintro e w1 ⟨rfl,hb1⟩;have hB1:Below w.heap.size w w1:=bl;have HB1:=D hB1;clear hb1 hB1;go_wp2_with fail;refine(C2.out _ (by have bU:=HB1.out;exact bl)).mono ?_;rintro e w2 ⟨rfl,hb2⟩;go_wp2_with fail;refine⟨rfl,?_,.inr ⟨by rw[HX.out];exact HK.out,by rw[HX.out];rfl⟩⟩;exact bR.of (by have bU:=HB1.out;exact bl)
set_option maxRecDepth 100000 in
theorem Tu (w:ai) (hR:Rd L g t w):ak ae 33 #[.pointer (C ⟨g,0,X⟩)] w (PE g VU (run q_ t) w):=by
 have HR:=D hR;have HN:av ((∀h:(hd t).k=0,run q_ t=.ok () t.tail)/\(¬(hd t).k=0->run q_ t=.no t)):=D ⟨fun h=>by unfold q_;rw[fD (Bv h)];rfl,fun h=>by unfold q_;rw[fQ (Dx h)]⟩;clear hR;obtain⟨r,hr⟩:∃r,run q_ t=r:=⟨_,rfl⟩
 rw[hr] at HN ⊢;clear hr;go_enter Tryz.func33,Tryz.ntmps33;go_wp2_with fail;refine(ar5 0 _ HR.out).mono ?_;rintro e w1 ⟨hb,⟨hk,rfl⟩|⟨hk,rfl⟩⟩
 · have HB:=D hb;have HK:=D (HN.out.1 hk);clear hb hk;unfold tv;go_wp2_with fail
   (first|go_end0|refine ah (results_none rfl _ _ _) rfl ?_)
   exact PE.ok HK.out HB.out rfl
 · have HB:=D hb;have HK:=D (HN.out.2 hk);clear hb hk;go_wp2_with fail;exact⟨rfl,PE.no HK.out HB.out⟩
set_option maxRecDepth 100000 in
theorem ao7 (w:ai) (hR:Rd L g t w):ak ae 24 #[.pointer (C ⟨g,0,X⟩)] w (PE g VX (run Bb t) w):=by
 obtain⟨r,hr⟩:∃r,run Bb t=r:=⟨_,rfl⟩
 rw[hr];have HS:=D hr;have hg:=hR.blk;have HR:=D hR;have HB:av (Bt g w w):=D (bR.refl _ _);clear hR hr;have Z:=D (bT.new (w:=w) (t:=41) (c:=#[.int .i64 0,.string ⟨#[]⟩,.int .i64 0,.slice X 0 0]));go_enter Tryz.func24,Tryz.ntmps24;go_wp2_with fail;have hz0:=Z.out.lt;refine(BD _ (HR.out.low qe)).mono ?_;rintro e w1 h1;rcases h1.cases with⟨x1,u1,v1,r1,rfl,b1,V1,R1⟩|⟨u1,r1,rfl,b1⟩
 rotate_left 1
 · have bU:=HB.out;go_wp2_with fail;exact⟨rfl,PE.no (dJ HS r1) qe⟩
 replace HS:=bY HS r1;replace Z:=D (bS (w2:=w1) Z.out qe);replace HB:av (Bt g w w1):=D qh;replace HR:=D R1;clear b1 R1;clear r1 h1;obtain⟨p1,m1,c1,rfl,k1⟩:=V1;have eB:av (bW (fun b=>w.heap.size<b) w1 x1 p1 m1):=D (k1.mono fun b hb hlt=>(by have hb':_<=b:=hb;first|(simp at hb';omega)|omega));clear k1;dsimp only [cu];have Y:=D (bT.new (w:=w1) (t:=41) (c:=cu x1 p1 m1 c1));dsimp only [cu] at Y;have hz1:=Z.out.lt;go_wp2_with fail;refine(mg _ (HR.out.low qe)).mono ?_;rintro e w2 h2;rcases h2.cases with⟨x2,u2,v2,r2,rfl,b2,V2,R2⟩|⟨u2,r2,rfl,b2⟩
 rotate_left 1
 · have bU:=HB.out;go_wp2_with fail;exact⟨rfl,PE.no (dJ HS r2) qe⟩
 replace HS:=bY HS r2;replace Z:=D (bS (w2:=w2) Z.out qe);replace Y:=D (bS (w2:=w2) Y.out qe);replace eB:=D (jB (w2:=w2) eB.out qe);replace HB:av (Bt g w w2):=D qh;replace HR:=D R2;clear b2 R2;clear r2 h2;obtain rfl:=V2;go_wp2_with fail;refine(Tu _ (HR.out.low qe)).mono ?_;rintro e w3 h3;rcases h3.cases with⟨x3,u3,v3,r3,rfl,b3,V3⟩|⟨u3,r3,rfl,b3⟩
 rotate_left 1
 · have bU:=HB.out;go_wp2_with fail;exact⟨rfl,PE.no (dJ HS r3) qe⟩
 replace HS:=bY HS r3;obtain rfl:=V3;replace Z:=D (bS (w2:=w3) Z.out qe);replace Y:=D (bS (w2:=w3) Y.out qe);replace eB:=D (jB (w2:=w3) eB.out qe);replace HB:av (Bt g w w3):=D qh;clear b3 r3 h3;have l0:U _ ⟨_,0,X⟩=C (.int .i64 x1.o):=Y.out.get rfl;have l1:U _ ⟨_,1,X⟩=C (.string x1.s):=Y.out.get rfl;have l2:U _ ⟨_,2,X⟩=C (.int .i64 x1.n):=Y.out.get rfl;have l3:U _ ⟨_,3,X⟩=C (.slice p1 m1 c1):=Y.out.get rfl;have y0:U _ ⟨_,0,X⟩=C (.int .i64 0):=Z.out.get rfl;have y1:U _ ⟨_,1,X⟩=C (.string ⟨#[]⟩):=Z.out.get rfl;have y2:U _ ⟨_,2,X⟩=C (.int .i64 0):=Z.out.get rfl;have y3:U _ ⟨_,3,X⟩=C (.slice X 0 0):=Z.out.get rfl;have fz:∀i,af _ ⟨_,i,X⟩=false:=fun i=>df (i:=i) Z.out;go_wp2_with fail;have bU:=HB.out;refine ah (v:=.agg (cu x1 p1 m1 c1)) ?_ rfl (PE.ok (dA HS) qe ⟨p1,m1,c1,rfl,?_⟩)
 · exact ag rfl _ _ w.heap.size 41 _ (0,0) _ rfl (lu Z.out rfl) Tryz.underlying41 rfl (by kernel_rfl)
 · have KK:=eB.out;exact gX KK qe
end
end Ps
namespace Ps
open Go.RowKit
section
variable {P:Program} {fn:Func} {p q u x:Tmp} {ty:TypeId}
theorem ap7 (h:fn.results=#[.cell p ty,.tmp u]) (tmps:Array au) (w:ai) (g:Nat) (t:TypeId) (cs:Array au) (fr:Nat×Nat) (d:TypeDesc) (hp:tmps.getD p undef=.pointer (C ⟨g,0,X⟩)) (hg:w.heap[g]?=C (.cells cs t fr)) (hu:P.underlying ty=C d) (hd:(match d with|.struct _|.array _ _=>true|_=>false)=true) (hi:(P.info? ty).map (·.size)=C cs.size) {v1:au} (e1:tmps.getD u undef=v1):(results fn tmps).run P w=.ok (.tuple #[.agg cs,v1]) w:=by
 have hp':tmps[p]?.getD undef=.pointer (C ⟨g,0,X⟩):=by simpa using hp
 subst e1;simp[results,h,hp',asAddr,run_loadVar_row w g t ty cs fr d hg hu hd hi]
theorem aeE (h:fn.results=#[.cell p ty,.tmp u,.tmp x]) (tmps:Array au) (w:ai) (g:Nat) (t:TypeId) (cs:Array au) (fr:Nat×Nat) (d:TypeDesc) (hp:tmps.getD p undef=.pointer (C ⟨g,0,X⟩)) (hg:w.heap[g]?=C (.cells cs t fr)) (hu:P.underlying ty=C d) (hd:(match d with|.struct _|.array _ _=>true|_=>false)=true) (hi:(P.info? ty).map (·.size)=C cs.size) {v1 v2:au} (e1:tmps.getD u undef=v1) (e2:tmps.getD x undef=v2):(results fn tmps).run P w=.ok (.tuple #[.agg cs,v1,v2]) w:=by
 have hp':tmps[p]?.getD undef=.pointer (C ⟨g,0,X⟩):=by simpa using hp
 subst e1 e2;simp[results,h,hp',asAddr,run_loadVar_row w g t ty cs fr d hg hu hd hi]
theorem PY (h:fn.results=#[.cell p ty,.cell q 3,.tmp u]) (tmps:Array au) (w:ai) (g k:Nat) (t:TypeId) (cs:Array au) (fr:Nat×Nat) (d:TypeDesc) (v:au) (hp:tmps.getD p undef=.pointer (C ⟨g,0,X⟩)) (hq:tmps.getD q undef=.pointer (C ⟨k,0,X⟩)) (hg:w.heap[g]?=C (.cells cs t fr)) (hk:(loadVar 3 ⟨k,0,X⟩).run P w=.ok v w) (hu:P.underlying ty=C d) (hd:(match d with|.struct _|.array _ _=>true|_=>false)=true) (hi:(P.info? ty).map (·.size)=C cs.size):(results fn tmps).run P w=.ok (.tuple #[.agg cs,v,tmps.getD u undef]) w:=by
 have hp':tmps[p]?.getD undef=.pointer (C ⟨g,0,X⟩):=by simpa using hp
 have hq':tmps[q]?.getD undef=.pointer (C ⟨k,0,X⟩):=by simpa using hq
 simp[results,h,hp',hq',asAddr,run_loadVar_row w g t ty cs fr d hg hu hd hi,hk]
end
theorem GL {w:ai} {k:Nat} {v:au} (h:w.cell? ⟨k,0,X⟩=C v):(loadVar 3 ⟨k,0,X⟩).run ae w=.ok v w:=by
 have hu:(underlying 3).run ae w=.ok (.int .i64) w:=run_underlying (by kernel_rfl) w;have ha:(isAgg 3).run ae w=.ok false w:=by
  unfold isAgg;rw[Sem.run_bind,hu];rfl
 simp[loadVar,Sem.run_bind,ha,go_sem,h]
end Ps
namespace Ps
open Go.RowKit
open Lx (Tk j4)
open Ex (Ex bW)
open Md (bT)
set_option maxHeartbeats 600000
set_option maxRecDepth 100000 in
theorem ajJ (p:Addr) (x n:Int) (older:List PanicEntry) (w:ai) (hc:w.cell? p=C (.int .i64 x)) (hz:w.frozen? p=false):CallsD ae 92 #[.pointer (C p)] (.panicking ({ v:=.iface 137 (.agg #[.int .i64 n]),recovered:=false }::older)) w fun e u' w'=>e=.returned (.tuple #[])/\u'=.panicking ({ v:=.iface 137 (.agg #[.int .i64 n]),recovered:=true }::older)/\w'=(w.alloc (.cells #[.int .i64 n] 137)).setCell p (.int .i64 n):=by
 refine callsD_of_wpS Tryz.func92 rfl fun c₀ cs hu=>?_;have yt:(Instr.typeAssert (Value.iface 137 (Value.agg #[Value.int IntKind.i64 n])) 20 137 true).run ae w=.ok (.tuple #[.agg #[.int .i64 n],.bool true]) w:=by kernel_rfl
 have hlt:p.block<w.heap.size:=by
  unfold U at hc
  split at hc
  · rename_i h;exact(Array.getElem?_eq_some_iff.1 h).1
  all_goals cases hc
 have hbb:(w.alloc (.cells #[.int .i64 n] 137)).heap[p.block]?=w.heap[p.block]?:=by
  show(w.heap.push _)[p.block]?=_
  rw[Array.getElem?_push,if_neg (by omega)]
 have h1:(w.alloc (.cells #[.int .i64 n] 137)).cell? ⟨w.heap.size,0,X⟩=C (.int .i64 n):=by rw[World.cell?_alloc_mark];rfl
 have h2:(w.alloc (.cells #[.int .i64 n] 137)).cell? p=C (.int .i64 x):=(World.cell?_of_block hbb).trans hc;have h3:(w.alloc (.cells #[.int .i64 n] 137)).frozen? p=false:=by unfold af at hz ⊢; rw[hbb];exact hz
 apply wpS_seq
 apply wpS_region
 simp[wpOpsS,go_sem,recoverD,hu,Tryz.ntmps92,Exit.thenS,yt]
 apply wpS_seq
 apply wpS_region
 simp[wpOpsS,go_sem,Exit.thenS]
 refine wpS_cond (t:=true) (by simp[Act.eval,Array.replicate]) ?_;simp only[if_true]
 apply wpS_region
 simp[wpOpsS,go_sem,h1,h2,h3,bodyPostS,results,Tryz.results92]
set_option maxRecDepth 100000 in
theorem ajI (p:Addr) (w:ai):CallsD ae 92 #[.pointer (C p)] .returning w fun e u' w'=>e=.returned (.tuple #[])/\u'=.returning/\w'=w.alloc (.cells #[.int .i64 0] 137):=by
 refine callsD_of_wpS Tryz.func92 rfl fun c₀ cs hu=>?_;have yt:(Instr.typeAssert Value.nilIface 20 137 true).run ae w=.ok (.tuple #[.agg #[.int .i64 0],.bool false]) w:=by kernel_rfl
 apply wpS_seq
 apply wpS_region
 simp[wpOpsS,go_sem,recoverD,hu,Tryz.ntmps92,Exit.thenS,yt]
 apply wpS_seq
 apply wpS_region
 simp[wpOpsS,go_sem,Exit.thenS]
 refine wpS_cond (t:=false) (by simp[Act.eval,Array.replicate]) ?_;simp only[Bool.false_eq_true,if_false];refine wpS_of_wp (wp_skip ?_);cases c₀
 simp_all [bodyPostS,results,Tryz.results92]
def FO {α:Type} (V:Nat->ai->α->au->Prop) (z:au) (r:R α) (w:ai) (e:Ending) (w':ai):Prop:=
 Below w.heap.size w w'/\match r with
  | .ok x u=>∃v,e=.returned (.tuple #[v,.int .i64 0,.int .i64 0])/\V w.heap.size w' x v
  | .no u=>e=.returned (.tuple #[z,.int .i64 (hd u).l,.int .i64 9])
theorem oq {a w:ai} (h:bR (fun k=>k<a.heap.size) a w):Below a.heap.size a w:=⟨h.os,h.tape,h.output,h.size,fun k hk=>h.block k hk hk⟩
section
variable {α:Type} {V:Nat->ai->α->au->Prop} {z v:au} {r:R α} {w w':ai} {e:Ending} {x:α} {u:List Tk}
theorem FO.ok (hr:r=.ok x u) (hb:Below w.heap.size w w') (hV:V w.heap.size w' x v):FO V z r w (.returned (.tuple #[v,.int .i64 0,.int .i64 0])) w':=by subst hr;exact⟨hb,v,rfl,hV⟩
theorem FO.no (hr:r=.no u) (hb:Below w.heap.size w w'):FO V z r w (.returned (.tuple #[z,.int .i64 (hd u).l,.int .i64 9])) w':=by subst hr;exact⟨hb,rfl⟩
theorem FO.cases (h:FO V z r w e w'):Below w.heap.size w w'/\((∃x u v,r=.ok x u/\e=.returned (.tuple #[v,.int .i64 0,.int .i64 0])/\V w.heap.size w' x v)∨(∃u,r=.no u/\e=.returned (.tuple #[z,.int .i64 (hd u).l,.int .i64 9]))):=by
 obtain⟨hb,h⟩:=h;refine⟨hb,?_⟩
 cases r with
 | ok x u=>obtain⟨v,h1,h2⟩:=h;exact .inl ⟨x,u,v,rfl,h1,h2⟩
 | no u=>exact .inr ⟨u,rfl,h⟩
end
theorem Vr {L:Lk} {w W:ai} {g:Nat} (hW:W=w.alloc (.cells #[.slice (C ⟨L.b,L.o,X⟩) L.m L.c,.int .i64 0] 140)) (hg:g=w.heap.size) (hb:L.b<w.heap.size) (ht:j4 w (C ⟨L.b,L.o,X⟩) L.m L.l) (hgd:Gd L.l) (nu:L.l.length<=30000):Rd L g L.l W:=by
 subst hW hg;have e:L.at L.l=0:=by unfold Lk.at;omega
 refine⟨hb,?_,by rw[e];rfl,ht.alloc,hgd,nu⟩;unfold Vq;rw[e];exact bT.new
set_option maxRecDepth 100000 in
theorem ams (f:FuncId) (m:P Ex) (L:Lk) (w:ai) (hf:∀(a:Array au) (W:ai),(callFunc f a).run ae W=.ok (.enter f a) W) (ht:j4 w (C ⟨L.b,L.o,X⟩) L.m L.l) (hgd:Gd L.l) (nu:L.l.length<=30000) (hC:∀g W,Rd L g L.l W->ak ae f #[.pointer (C ⟨g,0,X⟩)] W (PE g VX (run m L.l) W)):ak ae 52 #[.func (.func f) #[] #[],.slice (C ⟨L.b,L.o,X⟩) L.m L.c] w (FO VX (.agg #[.int .i64 0,.string ⟨#[]⟩,.int .i64 0,.slice X 0 0]) (run m L.l) w):=by
 have HC:=D hC;have HT:=D ht;have HG:=D hgd;have HF:=D nu;obtain⟨r,hr⟩:∃r,run m L.l=r:=⟨_,rfl⟩
 rw[hr] at HC ⊢;clear hC ht hgd nu;have hmf:∀(fn:Fn) (first cap:Array au) (w:ai),(Instr.makeFunc fn first cap).run ae w=.ok (.func fn first cap) w:=fun _ _ _ _=>rfl;go_enter_defers Tryz.func52,Tryz.ntmps52
 go_wp2_with fail;have hlb:L.b<w.heap.size:=by
  obtain⟨e1,e2,e3|⟨b',o',e,hlt,hc⟩⟩:=HT.out
  · have h1:=HG.out.ne;omega
  · cases e;exact hlt
 have z0:bT (w.alloc (.cells #[.int .i64 0,.string ⟨#[]⟩,.int .i64 0,.slice X 0 0] 41)) w.heap.size 41 #[.int .i64 0,.string ⟨#[]⟩,.int .i64 0,.slice X 0 0]:=bT.new;have n0:bT ((w.alloc (.cells #[.int .i64 0,.string ⟨#[]⟩,.int .i64 0,.slice X 0 0] 41)).alloc (.cells #[.int .i64 0] 3)) (w.heap.size+1) 3 #[.int .i64 0]:=by
  have h:=bT.new (w:=w.alloc (.cells #[.int .i64 0,.string ⟨#[]⟩,.int .i64 0,.slice X 0 0] 41)) (t:=3) (c:=#[.int .i64 0]);rwa [show(w.alloc (.cells #[.int .i64 0,.string ⟨#[]⟩,.int .i64 0,.slice X 0 0] 41)).heap.size=w.heap.size+1 by simp] at h
 have Z:=D z0;have N:=D n0;have hzl:=z0.lt;have hnl:=n0.lt;clear z0 n0;refine(HC.out (w.heap.size+1+1) _ (Vr rfl (by simp) (by simp;omega) (HT.out.alloc.alloc) HG.out HF.out)).mono ?_;rintro e w1 h1;rcases h1.cases with⟨x1,u1,v1,r1,rfl,b1,V1⟩|⟨u1,r1,rfl,b1⟩
 · have Z1:=D (bS (w2:=w1) Z.out qe);have N1:=D (bS (w2:=w1) N.out qe);have B1:av (bR (fun k=>k<w.heap.size) w w1):=D qe;have HK:=D r1;obtain⟨p1,m1,c1,rfl,k1⟩:=V1;have K1:av (bW (fun b=>w.heap.size+1<b) w1 x1 p1 m1):=D (k1.mono fun b hb hlt=>by
    have hb':_<=b:=hb;simp at hb'
    omega)
   dsimp only [cu];clear b1 h1 r1 k1 Z N;have y0:U _ ⟨_,0,X⟩=C (.int .i64 0):=Z1.out.get rfl;have y1:U _ ⟨_,1,X⟩=C (.string ⟨#[]⟩):=Z1.out.get rfl;have y2:U _ ⟨_,2,X⟩=C (.int .i64 0):=Z1.out.get rfl;have y3:U _ ⟨_,3,X⟩=C (.slice X 0 0):=Z1.out.get rfl;have fz:∀i,af _ ⟨_,i,X⟩=false:=fun i=>df (i:=i) Z1.out;have q0:U _ ⟨_,0,X⟩=C (.int .i64 0):=N1.out.get rfl;have qz:∀i,af _ ⟨_,i,X⟩=false:=fun i=>df (i:=i) N1.out;go_wp2_with fail;refine leaves_cons (f:=92) (args:=#[.pointer (C ⟨w.heap.size+1,0,X⟩)]) (by simp) (by simp[go_sem]) ?_;refine(ajI _ _).mono ?_;rintro e u' w'' ⟨rfl,rfl,rfl⟩;have BB:=B1.out;refine⟨_,PY rfl _ _ w.heap.size (w.heap.size+1) 41 (cu x1 p1 m1 c1) (0,0) _ (.int .i64 0) rfl rfl ?_ (GL ?_) Tryz.underlying41 rfl (by kernel_rfl),?_⟩
   · exact bS (lu Z1.out rfl) qe
   · have N4:=fq (i:=0) (v:=.int .i64 0) (bS (w2:=((((w1.setCell ⟨w.heap.size,0,X⟩ (.int .i64 x1.o)).setCell ⟨w.heap.size,1,X⟩ (.string x1.s)).setCell ⟨w.heap.size,2,X⟩ (.int .i64 x1.n)).setCell ⟨w.heap.size,3,X⟩ (.slice p1 m1 c1))) N1.out qe);exact(bS N4 qe).get (r:=0) rfl
   · have q:∀W,bR (fun b=>w.heap.size+1<b) w1 W->bW (fun b=>w.heap.size<=b) W x1 p1 m1:=fun W q=>Ex.bW.map q.size (fun b hb hlt=>⟨by show w.heap.size<=b;have hb':w.heap.size+1<b:=hb;omega,q.block b hlt hb⟩) _ K1.out;exact FO.ok HK.out (oq qe) ⟨p1,m1,c1,rfl,q _ qe⟩
 · have Z1:=D (bS (w2:=w1) Z.out qe);have N1:=D (bS (w2:=w1) N.out qe);have B1:av (bR (fun k=>k<w.heap.size) w w1):=D qe;have HK:=D r1;clear b1 h1 r1 Z N;go_wp2_with fail;refine leaves_cons (f:=92) (args:=#[.pointer (C ⟨w.heap.size+1,0,X⟩)]) (by simp) (by simp[go_sem]) ?_;refine(ajJ _ 0 (hd u1).l [] _ (N1.out.get rfl) (df N1.out)).mono ?_;rintro e u' w'' ⟨rfl,rfl,rfl⟩;refine⟨_,PY rfl _ _ w.heap.size (w.heap.size+1) 41 #[.int .i64 0,.string ⟨#[]⟩,.int .i64 0,.slice X 0 0] (0,0) _ (.int .i64 (hd u1).l) rfl rfl ?_ (GL ?_) Tryz.underlying41 rfl (by kernel_rfl),?_⟩
   · exact bS Z1.out qe
   · refine(fq (i:=0) (v:=.int .i64 (hd u1).l) (bS N1.out ?_)).get (r:=0) rfl;exact qe
   · exact FO.no HK.out (oq (by have BB:=B1.out;exact qe))
end Ps
namespace Ps
open Ps.P (rt fl bd acc see kd kw tk exp len)
open Lx (Tk bs mt)
open Na (lH)
open Ex (Ex cnt jk pre ku Js Sz)
structure cO {α:Type} (Q:α->Nat->Prop) (m:P α):Prop where
 out:∀{t u:List Tk} {x:α},Gd t->run m t=.ok x u->Gd u/\∃d,u.length+d=t.length/\Q x d
section
variable {α β:Type} {Q:α->Nat->Prop} {Q':β->Nat->Prop} {m:P β} {k:β->P α} {A B:P α} {s:ByteArray}
theorem cO.imp {Q2:α->Nat->Prop} {m:P α} (h:cO Q m) (hi:∀x d,Q x d->Q2 x d):cO Q2 m:=⟨fun g e=>by obtain⟨h1,d,h2,h3⟩:=h.out g e;exact⟨h1,d,h2,hi _ _ h3⟩⟩
theorem cO.rt {x:α} (h:Q x 0):cO Q (rt x):=⟨fun g e=>by rw[zL] at e;cases e;exact⟨g,0,rfl,h⟩⟩
theorem cO.fl:cO Q (fl:P α):=⟨fun g e=>by rw[Vu] at e;cases e⟩
theorem cO.bd (h:cO Q' m) (hk:∀x d,Q' x d->cO (fun y c=>Q y (d+c)) (k x)):cO Q (bd m k):=by
 refine⟨fun {t u x} g e=>?_⟩
 cases hm:run m t with
 | ok y v=>
  rw[fD hm] at e;obtain⟨h1,d,h2,h3⟩:=h.out g hm;obtain⟨h4,c,h5,h6⟩:=(hk y d h3).out h1 e;exact⟨h4,d+c,by omega,h6⟩
 | no v=>rw[fQ hm] at e;cases e
theorem cO.len {f:Nat->β->α} (h:cO Q' m) (hf:∀n x d,Q' x d->Q (f n x) d):cO Q (len m f):=by
 refine⟨fun {t u x} g e=>?_⟩
 cases hm:run m t with
 | ok y v=>rw[OW hm] at e;cases e;obtain⟨h1,d,h2,h3⟩:=h.out g hm;exact⟨h1,d,h2,hf _ _ _ h3⟩
 | no v=>rw[OV hm] at e;cases e
theorem cO.acc (hs:¬bs s=[]) (hA:cO (fun y c=>Q y (1+c)) A) (hB:cO Q B):cO Q (acc s A B):=by
 refine⟨fun {t u x} g e=>?_⟩
 cases hi:is s t with
 | true=>
  rw[FW hi] at e;obtain⟨h3,h4⟩:=Cw g hs hi;obtain⟨h5,c,h6,h7⟩:=hA.out h3 e;exact⟨h5,1+c,by omega,h7⟩
 | false=>rw[D_ hi] at e;exact hB.out g e
theorem cO.see (hA:cO Q A) (hB:cO Q B):cO Q (see s A B):=by
 refine⟨fun {t u x} g e=>?_⟩
 cases hi:is s t with
 | true=>rw[KY hi] at e;exact hA.out g e
 | false=>rw[KW hi] at e;exact hB.out g e
theorem cO.kd {j:Int} (hA:cO Q A) (hB:cO Q B):cO Q (kd j A B):=by
 refine⟨fun {t u x} g e=>?_⟩;by_cases hi:(hd t).k=j
 · rw[GH hi] at e;exact hA.out g e
 · rw[GG hi] at e;exact hB.out g e
theorem cO.kw (hA:cO Q A) (hB:cO Q B):cO Q (kw A B):=by
 refine⟨fun {t u x} g e=>?_⟩
 cases hi:lH (bs (hd t).t) with
 | true=>rw[Kb hi] at e;exact hA.out g e
 | false=>rw[UF hi] at e;exact hB.out g e
theorem cO.iff {c:Prop} [Decidable c] (hA:cO Q A) (hB:cO Q B):cO Q (if c then A else B):=by split <;> assumption
end
theorem mf {s:ByteArray} (hs:¬bs s=[]):cO (fun _ d=>d=1) (exp s):=by
 refine⟨fun {t u x} g e=>?_⟩
 cases hi:is s t with
 | true=>rw[Oi hi] at e;cases e;have:=Cw g hs hi;exact⟨this.1,1,by omega,rfl⟩
 | false=>rw[Oh hi] at e;cases e
theorem jo {p:Prop} (h:p:=by omega):p:=h
theorem Tq {j:Int} (hj:¬j=0):cO (fun x d=>d=1/\x.1.size<=20000/\0<=x.2/\x.2<=1000000000000) (tk j):=by
 refine⟨fun {t u x} g e=>?_⟩;by_cases hi:(hd t).k=j
 · rw[Bv hi] at e;cases e;have:=g.tail jo;exact⟨this.1,1,by omega,rfl,g.wf.2.2.2.1,g.wf.n⟩
 · rw[Dx hi] at e;cases e
theorem pR:cO (fun n d=>d=1/\0<=n/\n<=1000000000000) num:=.bd (Tq (by decide)) fun x d h=>.rt ⟨by omega,h.2.2⟩
theorem mK:cO (fun s d=>d=1/\s.size<=20000) fP:=.kw .fl (.bd (Tq (by decide)) fun x d h=>.rt ⟨by omega,h.2.1⟩)
theorem rZ:cO (fun _ d=>d=1) fU:=.bd (Tq (by decide)) fun x d h=>.rt jo
theorem aaP:cO (fun n d=>1<=d/\Bn n) vz:=.acc (by decide) (.bd pR fun n d h=>.rt ⟨by omega,by unfold Bn;omega⟩) (pR.imp fun n d h=>⟨by omega,by unfold Bn;omega⟩)
theorem Tt:cO (fun n d=>1<=d/\(n=0∨n=1)) vW:=.acc (by decide) (.rt ⟨by omega,.inr rfl⟩) (.bd (mf (by decide)) fun _ d h=>.rt ⟨by omega,.inl rfl⟩)
def QX (e:Ex) (d:Nat):Prop:=cnt e<=d/\∀x∈pre e,x.s.size<=20000
theorem Dj {o n:Int} {s:ByteArray} {d:Nat} (hs:s.size<=20000) (hd:1<=d):QX (.mk o s n []) d:=by
 refine⟨by simp only[cnt,jk];omega,fun x hx=>?_⟩;simp only[pre,ku,List.mem_cons,List.not_mem_nil,or_false] at hx;subst hx;exact hs
theorem Vd {o:Int} {x:Ex} {d c:Nat} (h:QX x d) (hd:d+1<=c):QX (uh o x) c:=by
 refine⟨by have:=h.1;unfold uh;simp only[cnt,jk];omega,fun y hy=>?_⟩;unfold uh at hy;simp only[pre,ku,List.mem_cons,List.append_nil] at hy;rcases hy with rfl|hy
 · exact Nat.zero_le _
 · exact h.2 y hy
theorem Dk {o:Int} {x y:Ex} {d e c:Nat} (h:QX x d) (g:QX y e) (hd:d+e+1<=c):QX (jl o x y) c:=by
 refine⟨by have:=h.1;have:=g.1;unfold jl;simp only[cnt,jk];omega,fun z hz=>?_⟩;unfold jl at hz;simp only[pre,ku,List.mem_cons,List.append_nil,List.mem_append] at hz;rcases hz with rfl|hz|hz
 · exact Nat.zero_le _
 · exact h.2 z hz
 · exact g.2 z hz
theorem QX.le {e:Ex} {d c:Nat} (h:QX e d) (hd:d<=c):QX e c:=⟨aj h.1 hd,h.2⟩
theorem aaW {α:Type} {Q:α->Nat->Prop} {A:Int->P α} {B:P α} (hB:cO Q B):∀{os:List (ByteArray×Int)},(∀q∈os,cO (fun y c=>Q y (1+c)) (A q.2))->(∀q∈os,¬bs q.1=[])->cO Q (zG A B os)
 | [],_,_=>hB
 | q::r,hA,hs=>.acc (hs q (.head _)) (hA q (.head _)) (aaW hB (fun p hp=>hA p (.tail _ hp)) fun p hp=>hs p (.tail _ hp))
section
variable {m:P Ex} {os:List (ByteArray×Int)}
theorem aaK (h:cO QX m) (hs:∀q∈os,¬bs q.1=[]):∀n e d,QX e d->cO (fun y c=>QX y (d+c)) (wI m os n e)
 | 0,_,_,_=>.fl
 | n+1,e,d,he=>aaW (.rt he) (fun q hq=>.bd h fun y c hy=>(aaK h hs n _ (d+c+1) (Dk he hy jo)).imp fun z b hz=>hz.le jo) hs
theorem Ob (h:cO QX m) (hs:∀q∈os,¬bs q.1=[]):cO QX (zi m os):=.bd h fun e d he=>aaK h hs FU e d he
end
section
variable {E F N:P Ex}
theorem aaV (h:cO QX E) (o:Int):cO QX (one E o):=.bd (mf (by decide)) fun _ a ha=>.bd h fun x d hx=>.bd (mf (by decide)) fun _ b hb=>.rt (Vd hx jo)
theorem aa4 (h:cO QX E) (o:Int):cO QX (two E o):=.bd (mf (by decide)) fun _ a ha=>.bd h fun x d hx=>.bd (mf (by decide)) fun _ b hb=>.bd h fun y e hy=>.bd (mf (by decide)) fun _ c hc=>.rt (Dk hx hy jo)
theorem Tp (o:Int):cO QX (zF o):=.bd (mf (by decide)) fun _ a ha=>.bd mK fun s d hs=>.bd (mf (by decide)) fun _ b hb=>.rt (Dj hs.2 jo)
theorem apO {n:Nat} {e:Ex} {d:Nat} (h:QX e d):QX (neg n e) d:=by
 unfold neg
 split
 · exact Dj (Nat.zero_le _) (aj (Js _) h.1)
 · exact h
theorem alD (h:cO QX E):cO QX (AB E):=.len (Q':=QX) (.bd (mf (by decide)) fun _ a ha=>.bd h fun x d hx=>.bd (mf (by decide)) fun _ b hb=>.rt (hx.le jo)) fun n x d hx=>apO hx
theorem o8:mt.size<=20000:=Nat.zero_le _
theorem alG (h:cO QX E):cO QX (De E):=
 .kd (.bd pR fun n d hn=>.rt (Dj o8 jo)) <|
 .see (.bd Tt fun n d hn=>.rt (Dj o8 jo)) <|
 .see (.bd Tt fun n d hn=>.rt (Dj o8 jo)) <|
 .acc (by decide) (.rt (Dj o8 jo)) <|
 .acc (by decide) ((aaV h 7).imp fun x d hx=>hx.le jo) <|
 .acc (by decide) ((aaV h 8).imp fun x d hx=>hx.le jo) <|
 .acc (by decide) ((aa4 h 20).imp fun x d hx=>hx.le jo) <|
 .acc (by decide) ((aa4 h 21).imp fun x d hx=>hx.le jo) <|
 .acc (by decide) ((Tp 22).imp fun x d hx=>hx.le jo) <|
 .acc (by decide) ((Tp 23).imp fun x d hx=>hx.le jo) <|
 .acc (by decide) ((Tp 24).imp fun x d hx=>hx.le jo) <|
 .see (alD h) <|
 .bd mK fun s d hs=>.rt (Dj hs.2 jo)
theorem Tm (h:cO QX E) (hF:cO QX F):cO QX (x_ E F):=.acc (by decide) (.bd hF fun x d hx=>.rt (Vd hx jo)) (alG h)
theorem Ep (h:cO QX F):cO QX (sum F):=Ob (Ob h (by decide)) (by decide)
theorem alA (h:cO QX F):cO QX (cmp F):=.bd (Ep h) fun x d hx=>
 .acc (by decide) (.bd (Ep h) fun y e hy=>.rt (Dk hx hy jo)) <|
 .acc (by decide) (.bd (Ep h) fun y e hy=>.rt (Dk hx hy jo)) <|
 .acc (by decide) (.bd (Ep h) fun y e hy=>.rt (Dk hx hy jo)) <|
 .acc (by decide) (.bd (Ep h) fun y e hy=>.rt (Dk hx hy jo)) <|
 .acc (by decide) (.bd (Ep h) fun y e hy=>.rt (Dk hy hx jo)) <|
 .acc (by decide) (.bd (Ep h) fun y e hy=>.rt (Dk hy hx jo)) <|
 .rt (hx.le jo)
theorem aaU (h:cO QX F) (hN:cO QX N):cO QX (Ba F N):=.acc (by decide) (.bd hN fun x d hx=>.rt (Vd hx jo)) (alA h)
theorem alB (h:cO QX N):cO QX (Ck N):=Ob (Ob h (by decide)) (by decide)
theorem aaS:∀n,cO QX (fF n)/\cO QX (fN n)/\cO QX (fE n)
 | 0=>by rw[fF,fN,fE];exact⟨.fl,.fl,.fl⟩
 | n+1=>by
  obtain⟨h1,h2,h3⟩:=aaS n;rw[fF,fN,fE];exact⟨Tm h3 h1,aaU (Tm h3 h1) h2,alB (aaU (Tm h3 h1) h2)⟩
end
theorem zl:cO QX kF:=(aaS FU).2.2
theorem QX.sz {e:Ex} {d:Nat} (h:QX e d):Sz e:=fun x hx=>aj (h.2 x hx) (by decide)
theorem ao0 {t u:List Tk} {x:Ex} (g:Gd t) (hl:t.length<=30000) (h:run Bb t=.ok x u):cnt x<=30000/\Sz x:=by
 unfold Bb at h
 cases hm:run kF t with
 | no v=>rw[fQ hm] at h;cases h
 | ok y v=>
  obtain⟨h1,d,h2,h3⟩:=zl.out g hm;rw[fD hm] at h;have e:x=y:=by
   cases hm2:run fU v with
   | no v2=>rw[fQ hm2] at h;cases h
   | ok y2 v2=>
    rw[fD hm2] at h
    cases ym:run q_ v2 with
    | no v3=>rw[fQ ym] at h;cases h
    | ok y3 v3=>rw[fD ym,zL] at h;cases h;rfl
  subst e;exact⟨by have:=h3.1;omega,h3.sz⟩
theorem aaX:cO (fun _ d=>3<=d) pr:=.bd pR fun a d h=>.bd (mf (by decide)) fun _ c h2=>.bd pR fun b e h3=>.rt jo
theorem aaY:∀n l k,l.length<=k->cO (fun x d=>x.length<=k+d) (ER n l)
 | 0,_,_,_=>.fl
 | n+1,l,k,h=>.kd (.bd aaX fun x d hd=>(aaY n (l++[x]) (k+1) (by simp;omega)).imp fun y c hy=>by omega) (.rt jo)
theorem aaZ:cO (fun x d=>x.length<=d) yD:=.bd aaX fun x d hd=>(aaY FU [x] 1 (by simp)).imp fun y c hy=>by omega
theorem aey {s:ByteArray} {t:List Tk} (g:Gd t) (hl:t.length<=30000) (hi:is s t=true):∀x u,run yD t.tail=.ok x u->x.length<=30000:=fun x u h=>by
 by_cases hk:(hd t).k=0
 · have h1:=g.last hk;have h2:t.tail=[]:=List.length_eq_zero_iff.1 (by rw[List.length_tail];omega);rw[h2] at h
   exact absurd h (by unfold yD pr num; rw [fQ]; · intro e; cases e
                      · rfl)
 · obtain⟨h1,h2⟩:=g.tail hk;obtain⟨-,d,h3,h4⟩:=aaZ.out h1 h;omega
def EI {α:Type} (e:P α) (n:Nat):List α->P (List α)
 | []=>bd e fun x=>xq e n [x]
 | y::r=>bd (exp yS) fun _=>bd e fun x=>xq e n ((y::r)++[x])
theorem OZ {α:Type} (e:P α) (n:Nat) (l:List α):xq e (n+1) l=acc yU (rt l) (EI e n l):=by cases l <;> rfl
end Ps
end Go.Proofs.YtbgodajefaahdaaGreatDoor
