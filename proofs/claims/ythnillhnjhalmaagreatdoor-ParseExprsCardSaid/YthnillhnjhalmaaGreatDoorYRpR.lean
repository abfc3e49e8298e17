/-
  Parts of this proof: The contract of the reference's primary. The contract of the reference's not. The contracts of the reference's functions for e.
-/
import Derived.Test.YthnillhnjhalmaaGreatDoorYTXC
import Derived.Test.YthnillhnjhalmaaGreatDoorYRpH
open Go.Lib renaming hid->U
open Option renaming none->ae,some->aj
open Go renaming bodyPost_ret->af
open Go.Proofs.Tryz renaming prog->ag
open Go.World renaming cell?->ah
open Go.RowKit renaming Hid->ai
set_option linter.unusedVariables false
set_option maxRecDepth 100000
set_option maxHeartbeats 2000000
open Go.Lib (hid)
namespace Go.Proofs.YthnillhnjhalmaaGreatDoor
namespace Ps
open Ps.P (rt bd tk)
open Go.RowKit
open Lx (Tk)
open Ex (Ex Gives bW)
open Md (bX)
section
variable {L:Lk} {g:Nat} {b:Bool} {t:List Tk} {n:Nat}
theorem aw0 {p:Prop} (h:p:=by
 exact results_cell_row rfl _ _ w.heap.size 26 _ (0,0) _ rfl (mi (cO Z.out qe) rfl) Tryz.underlying26 rfl dA
 ):p:=h
theorem awO {p:Prop} (h:p:=by
 clear k3;dsimp only [b_];obtain⟨l0,l1,l2,l3,fy⟩:=df Y.out;obtain⟨y0,y1,y2,y3,fz⟩:=df Z.out;go_wp2_with fail;have bZ:=HB.out;refine af (v:=.agg (b_ (eQ) (p3) m3 c3)) ?_ rfl (QO.mk (V:=VX) (x:=eQ) ⟨(p3),m3,c3,rfl,?_⟩ qe (HR.out.low qe) HL.out)
 · exact aw0
 · have KK:=K3.out;have qE:∀W,bT (fun b=>w.heap.size<b/\¬b=w.heap.size+1) eY W->bW (fun b=>w.heap.size<=b) W eQ p3 m3:=fun W q=>Ex.bW.map q.size (fun b hb hlt=>⟨Nat.le_of_lt hb.1,q.block b hlt hb⟩) _ KK;exact qE _ qe
 ):p:=h
theorem awL {p:Prop} (h:p:=by rcases zo qA.out (by decide) hi with h|h <;> (rw[h];decide)):p:=h
theorem axM {p:Prop} (h:p:=by
 have HI:=U hi;have HK:ai (¬(hd t).k=0):=U awL;clear hi;replace HX:=U (HX.out rfl);replace HN:=U (HN.out rfl);replace HS:=UR HS HI.out;go_wp2_with fail;refine qo HS HB (ana _ (HR.out.low qe)) ?_;clear HS HB HR;rintro kW LD u21 v21 wY-HS q21 ⟨rfl,h01⟩ HR HB;replace Z:=bV Z wY;replace Y:=jo Y wY;clear q21;obtain⟨l0,l1,l2,l3,fy⟩:=df Y.out;obtain⟨y0,y1,y2,y3,fz⟩:=df Z.out;go_wp2_with fail;have bZ:=HB.out;refine af (v:=.agg (b_ (fo 2 kW) (ae) 0 0)) ?_ rfl (QO.mk (V:=VX) (x:=fo 2 kW) ⟨(ae),0,0,rfl,?_⟩ qe (HR.out.low qe) (uY HS))
 · exact aw0
 · exact Ex.bW.zero
 ):p:=h
set_option maxHeartbeats 8000000 in
theorem am8 (hX:b=false->XQ L g n) (w:World) (hR:Rp L g b t w) (hn:b=false->t.length<=n) (hneg:∀W,Rp L g b t W->Calls ag 244 #[.pointer (aj ⟨g,0,ae⟩)] W (Gives (.bool (!b&&pat t)) W)):Calls ag 231 #[.pointer (aj ⟨g,0,ae⟩)] w (QO L g VX (wO (fE n)) b t w):=by
 have HX:=U hX;have HN:=U hn;have H7:=U hneg;have qA:=U hR.gd;clear hX hn hneg;have hg:=hR.blk;have HR:=U hR;have HB:ai (Bt g w w):=U (bT.refl _ _);have HS:ai (To (wO (fE n)) b t (wO (fE n)) b t):=yE;have Z:=jR w;have Y0:=bX.new (w:=w.alloc (.cells #[.int .i64 0,.string ⟨#[]⟩,.int .i64 0,.slice ae 0 0] 26)) (t:=26) (c:=#[.int .i64 0,.string ⟨#[]⟩,.int .i64 0,.slice ae 0 0]);rw[show(w.alloc (.cells #[.int .i64 0,.string ⟨#[]⟩,.int .i64 0,.slice ae 0 0] 26)).heap.size=w.heap.size+1 by simp] at Y0;have Y:=U Y0;replace Z:ai (bX ((w.alloc (.cells #[.int .i64 0,.string ⟨#[]⟩,.int .i64 0,.slice ae 0 0] 26)).alloc (.cells #[.int .i64 0,.string ⟨#[]⟩,.int .i64 0,.slice ae 0 0] 26)) w.heap.size 26 #[.int .i64 0,.string ⟨#[]⟩,.int .i64 0,.slice ae 0 0]):=U (cO Z.out qe);obtain⟨z0,hz0⟩:∃z,(!b&&decide ((hd t).k=2))=z:=⟨_,rfl⟩
 have HZ0:=U hz0;clear hz0 Y0 hR;obtain⟨z1,hz1⟩:∃z,(!b&&is oI t)=z:=⟨_,rfl⟩
 have HZ1:=U hz1;clear hz1;obtain⟨z2,hz2⟩:∃z,(!b&&is qM t)=z:=⟨_,rfl⟩
 have HZ2:=U hz2;clear hz2;obtain⟨z3,hz3⟩:∃z,(!b&&is F9 t)=z:=⟨_,rfl⟩
 have HZ3:=U hz3;clear hz3;obtain⟨z4,jh⟩:∃z,(!b&&is Jh t)=z:=⟨_,rfl⟩
 have ru:=U jh;clear jh;obtain⟨z5,F6⟩:∃z,(!b&&is Jn t)=z:=⟨_,rfl⟩
 have Qc:=U F6;clear F6;obtain⟨z6,SY⟩:∃z,(!b&&is Jk t)=z:=⟨_,rfl⟩
 have Qd:=U SY;clear SY;obtain⟨z7,S9⟩:∃z,(!b&&is Jj t)=z:=⟨_,rfl⟩
 have Qe:=U S9;clear S9;obtain⟨z8,S_⟩:∃z,(!b&&is Ji t)=z:=⟨_,rfl⟩
 have Qf:=U S_;clear S_;obtain⟨z9,Ta⟩:∃z,(!b&&is Jm t)=z:=⟨_,rfl⟩
 have Qg:=U Ta;clear Ta;obtain⟨z10,SS⟩:∃z,(!b&&is Jp t)=z:=⟨_,rfl⟩
 have P_:=U SS;clear SS;obtain⟨z12,SX⟩:∃z,(!b&&is fK t)=z:=⟨_,rfl⟩
 have Qb:=U SX;clear SX;obtain⟨z11,SV⟩:∃z,(!b&&pat t)=z:=⟨_,rfl⟩
 have Qa:=U SV;clear SV;go_enter Tryz.func231,Tryz.ntmps231;go_wp2_with fail;refine gp HR HB (aaG _ (HR.out.low qe)) ?_;clear HR HB;rintro zT q-HR HB;rw[HZ0.out];replace Z:=bV Z zT;replace Y:=jo Y zT;clear q;have wJ:=Y.out.lt;cases z0
 rotate_left 1
 · obtain⟨rfl,hi⟩:b=false/\(hd t).k=2:=by have h:=HZ0.out;simpa using h
   replace HS:=apW HS hi;go_wp2_with fail;refine qo HS HB (TW _ (HR.out.low qe)) ?_;clear HS HB HR;rintro x20 b20 u20 v20 wX-HS q20 ⟨rfl,n0,n1⟩ HR HB;replace Z:=bV Z wX;replace Y:=jo Y wX;clear q20;obtain⟨l0,l1,l2,l3,fy⟩:=df Y.out;obtain⟨y0,y1,y2,y3,fz⟩:=df Z.out;go_wp2_with fail;have bZ:=HB.out;refine af (v:=.agg (b_ (fo 1 x20) (ae) 0 0)) ?_ rfl (QO.mk (V:=VX) (x:=fo 1 x20) ⟨(ae),0,0,rfl,?_⟩ qe (HR.out.low qe) (uY HS))
   · exact aw0
   · exact Ex.bW.zero
 replace HS:=apX HS HZ0.out;go_wp2_with fail;refine gp HR HB (qL oI _ (HR.out.low qe) bS bS) ?_;clear HR HB;rintro zV q-HR HB;rw[HZ1.out];replace Z:=bV Z zV;replace Y:=jo Y zV;clear q;have wJ:=Y.out.lt;cases z1
 rotate_left 1
 · skip
   obtain⟨rfl,hi⟩:b=false/\is oI t=true:=by have h:=HZ1.out;simpa using h
   exact axM
 replace HS:=UQ HS HZ1.out;go_wp2_with fail;refine gp HR HB (qL qM _ (HR.out.low qe) bS bS) ?_;clear HR HB;rintro zW q-HR HB;rw[HZ2.out];replace Z:=bV Z zW;replace Y:=jo Y zW;clear q;have wJ:=Y.out.lt;cases z2
 rotate_left 1
 · skip
   obtain⟨rfl,hi⟩:b=false/\is qM t=true:=by have h:=HZ2.out;simpa using h
   exact axM
 replace HS:=UQ HS HZ2.out;go_wp2_with fail;refine gp HR HB (qL F9 _ (HR.out.low qe) bS bS) ?_;clear HR HB;rintro zX q-HR HB;rw[HZ3.out];replace Z:=bV Z zX;replace Y:=jo Y zX;clear q;have wJ:=Y.out.lt;cases z3
 rotate_left 1
 · skip
   obtain⟨rfl,hi⟩:b=false/\is F9 t=true:=by have h:=HZ3.out;simpa using h
   have HI:=U hi;have HK:ai (¬(hd t).k=0):=U awL;clear hi;replace HX:=U (HX.out rfl);replace HN:=U (HN.out rfl);go_wp2_with fail;refine qr HB (Ow F9 _ (HR.out.low qe) bS bS) ?_;clear HB HR;rintro x22 LF u22 v22 GJ r22 q22 rfl HR HB;obtain⟨rfl,rfl⟩:=BG HI.out r22;replace HS:=pY HS HI.out;replace Z:=bV Z GJ;replace Y:=jo Y GJ;clear q22 r22;obtain⟨l0,l1,l2,l3,fy⟩:=df Y.out;obtain⟨y0,y1,y2,y3,fz⟩:=df Z.out;go_wp2_with fail;have bZ:=HB.out;refine af (v:=.agg (b_ (nd0 4) (ae) 0 0)) ?_ rfl (QO.mk (V:=VX) (x:=nd0 4) ⟨(ae),0,0,rfl,?_⟩ qe (HR.out.low qe) (uY HS))
   · exact aw0
   · exact Ex.bW.zero
 replace HS:=pX HS HZ3.out;go_wp2_with fail;refine gp HR HB (qL Jh _ (HR.out.low qe) bS bS) ?_;clear HR HB;rintro yQ q-HR HB;rw[ru.out];replace Z:=bV Z yQ;replace Y:=jo Y yQ;clear q;have wJ:=Y.out.lt;cases z4
 rotate_left 1
 · skip
   obtain⟨rfl,hi⟩:b=false/\is Jh t=true:=by have h:=ru.out;simpa using h
   have HI:=U hi;have HK:ai (¬(hd t).k=0):=U awL;clear hi;replace HX:=U (HX.out rfl);replace HN:=U (HN.out rfl);replace HS:=pY HS HI.out;go_wp2_with fail;refine ql HS HB (ab4 7 HX.out _ (HR.out.low qe) HN.out HK.out) ?_;clear HB HR;rintro eQ ze u23 v23 eY-HL uS ⟨p3,m3,c3,rfl,k3⟩ HR HB;replace Z:=bV Z eY;replace Y:=jo Y eY;clear uS;have K3:ai (bW (fun b=>w.heap.size<b/\¬b=w.heap.size+1) eY eQ p3 m3):=U (k3.mono fun b hb hlt=>by have hb2:yQ.heap.size<=b:=hb;exact⟨by omega,by omega⟩);exact awO
 replace HS:=pX HS ru.out;go_wp2_with fail;refine gp HR HB (qL Jn _ (HR.out.low qe) bS bS) ?_;clear HR HB;rintro yR q-HR HB;rw[Qc.out];replace Z:=bV Z yR;replace Y:=jo Y yR;clear q;have wJ:=Y.out.lt;cases z5
 rotate_left 1
 · skip
   obtain⟨rfl,hi⟩:b=false/\is Jn t=true:=by have h:=Qc.out;simpa using h
   have HI:=U hi;have HK:ai (¬(hd t).k=0):=U awL;clear hi;replace HX:=U (HX.out rfl);replace HN:=U (HN.out rfl);replace HS:=pY HS HI.out;go_wp2_with fail;refine ql HS HB (ab4 8 HX.out _ (HR.out.low qe) HN.out HK.out) ?_;clear HB HR;rintro eQ ze u23 v23 eY-HL uS ⟨p3,m3,c3,rfl,k3⟩ HR HB;replace Z:=bV Z eY;replace Y:=jo Y eY;clear uS;have K3:ai (bW (fun b=>w.heap.size<b/\¬b=w.heap.size+1) eY eQ p3 m3):=U (k3.mono fun b hb hlt=>by have hb2:yR.heap.size<=b:=hb;exact⟨by omega,by omega⟩);exact awO
 replace HS:=pX HS Qc.out;go_wp2_with fail;refine gp HR HB (qL Jk _ (HR.out.low qe) bS bS) ?_;clear HR HB;rintro tY q-HR HB;rw[Qd.out];replace Z:=bV Z tY;replace Y:=jo Y tY;clear q;have wJ:=Y.out.lt;cases z6
 rotate_left 1
 · skip
   obtain⟨rfl,hi⟩:b=false/\is Jk t=true:=by have h:=Qd.out;simpa using h
   have HI:=U hi;have HK:ai (¬(hd t).k=0):=U awL;clear hi;replace HX:=U (HX.out rfl);replace HN:=U (HN.out rfl);replace HS:=pY HS HI.out;go_wp2_with fail;refine ql HS HB (ab5 20 HX.out _ (HR.out.low qe) HN.out HK.out) ?_;clear HB HR;rintro eQ ze u23 v23 eY-HL uS ⟨p3,m3,c3,rfl,k3⟩ HR HB;replace Z:=bV Z eY;replace Y:=jo Y eY;clear uS;have K3:ai (bW (fun b=>w.heap.size<b/\¬b=w.heap.size+1) eY eQ p3 m3):=U (k3.mono fun b hb hlt=>by have hb2:tY.heap.size<=b:=hb;exact⟨by omega,by omega⟩);exact awO
 replace HS:=pX HS Qd.out;go_wp2_with fail;refine gp HR HB (qL Jj _ (HR.out.low qe) bS bS) ?_;clear HR HB;rintro ER q-HR HB;rw[Qe.out];replace Z:=bV Z ER;replace Y:=jo Y ER;clear q;have wJ:=Y.out.lt;cases z7
 rotate_left 1
 · skip
   obtain⟨rfl,hi⟩:b=false/\is Jj t=true:=by have h:=Qe.out;simpa using h
   have HI:=U hi;have HK:ai (¬(hd t).k=0):=U awL;clear hi;replace HX:=U (HX.out rfl);replace HN:=U (HN.out rfl);replace HS:=pY HS HI.out;go_wp2_with fail;refine ql HS HB (ab5 21 HX.out _ (HR.out.low qe) HN.out HK.out) ?_;clear HB HR;rintro eQ ze u23 v23 eY-HL uS ⟨p3,m3,c3,rfl,k3⟩ HR HB;replace Z:=bV Z eY;replace Y:=jo Y eY;clear uS;have K3:ai (bW (fun b=>w.heap.size<b/\¬b=w.heap.size+1) eY eQ p3 m3):=U (k3.mono fun b hb hlt=>by have hb2:ER.heap.size<=b:=hb;exact⟨by omega,by omega⟩);exact awO
 replace HS:=pX HS Qe.out;go_wp2_with fail;refine gp HR HB (qL Ji _ (HR.out.low qe) bS bS) ?_;clear HR HB;rintro ES q-HR HB;rw[Qf.out];replace Z:=bV Z ES;replace Y:=jo Y ES;clear q;have wJ:=Y.out.lt;cases z8
 rotate_left 1
 · skip
   obtain⟨rfl,hi⟩:b=false/\is Ji t=true:=by have h:=Qf.out;simpa using h
   have HI:=U hi;have HK:ai (¬(hd t).k=0):=U awL;clear hi;replace HX:=U (HX.out rfl);replace HN:=U (HN.out rfl);replace HS:=pY HS HI.out;go_wp2_with fail;refine ql HS HB (T9 22 _ (HR.out.low qe) HK.out) ?_;clear HB HR;rintro eQ ze u23 v23 eY-HL uS ⟨p3,m3,c3,rfl,k3⟩ HR HB;replace Z:=bV Z eY;replace Y:=jo Y eY;clear uS;have K3:ai (bW (fun b=>w.heap.size<b/\¬b=w.heap.size+1) eY eQ p3 m3):=U (k3.mono fun b hb hlt=>by have hb2:ES.heap.size<=b:=hb;exact⟨by omega,by omega⟩);exact awO
 replace HS:=pX HS Qf.out;go_wp2_with fail;refine gp HR HB (qL Jm _ (HR.out.low qe) bS bS) ?_;clear HR HB;rintro EN q-HR HB;rw[Qg.out];replace Z:=bV Z EN;replace Y:=jo Y EN;clear q;have wJ:=Y.out.lt;cases z9
 rotate_left 1
 · skip
   obtain⟨rfl,hi⟩:b=false/\is Jm t=true:=by have h:=Qg.out;simpa using h
   have HI:=U hi;have HK:ai (¬(hd t).k=0):=U awL;clear hi;replace HX:=U (HX.out rfl);replace HN:=U (HN.out rfl);replace HS:=pY HS HI.out;go_wp2_with fail;refine ql HS HB (T9 23 _ (HR.out.low qe) HK.out) ?_;clear HB HR;rintro eQ ze u23 v23 eY-HL uS ⟨p3,m3,c3,rfl,k3⟩ HR HB;replace Z:=bV Z eY;replace Y:=jo Y eY;clear uS;have K3:ai (bW (fun b=>w.heap.size<b/\¬b=w.heap.size+1) eY eQ p3 m3):=U (k3.mono fun b hb hlt=>by have hb2:EN.heap.size<=b:=hb;exact⟨by omega,by omega⟩);exact awO
 replace HS:=pX HS Qg.out;go_wp2_with fail;refine gp HR HB (qL Jp _ (HR.out.low qe) bS bS) ?_;clear HR HB;rintro EP q-HR HB;rw[P_.out];replace Z:=bV Z EP;replace Y:=jo Y EP;clear q;have wJ:=Y.out.lt;cases z10
 rotate_left 1
 · skip
   obtain⟨rfl,hi⟩:b=false/\is Jp t=true:=by have h:=P_.out;simpa using h
   have HI:=U hi;have HK:ai (¬(hd t).k=0):=U awL;clear hi;replace HX:=U (HX.out rfl);replace HN:=U (HN.out rfl);replace HS:=pY HS HI.out;go_wp2_with fail;refine ql HS HB (T9 24 _ (HR.out.low qe) HK.out) ?_;clear HB HR;rintro eQ ze u23 v23 eY-HL uS ⟨p3,m3,c3,rfl,k3⟩ HR HB;replace Z:=bV Z eY;replace Y:=jo Y eY;clear uS;have K3:ai (bW (fun b=>w.heap.size<b/\¬b=w.heap.size+1) eY eQ p3 m3):=U (k3.mono fun b hb hlt=>by have hb2:EP.heap.size<=b:=hb;exact⟨by omega,by omega⟩);exact awO
 replace HS:=pX HS P_.out;go_wp2_with fail;refine gp HR HB (H7.out _ (HR.out.low qe)) ?_;clear HR HB;rintro wn q-HR HB;rw[Qa.out];replace Z:=bV Z wn;replace Y:=jo Y wn;clear q;have wJ:=Y.out.lt;cases z11
 rotate_left 1
 · skip
   obtain⟨rfl,hp⟩:b=false/\pat t=true:=by have h:=Qa.out;simpa using h
   replace HN:=U (HN.out rfl);have h1:=hp;unfold pat at h1;simp only[Bool.and_eq_true,decide_eq_true_eq] at h1;obtain⟨⟨⟨i1,i2⟩,i3⟩,i4⟩:=h1;replace HS:=UR HS i1;have hlen:4<=t.length:=by
    rcases Nat.lt_or_ge t.length 4 with h|h
    · rw[abY bU] at hp;cases hp
    · exact h
   obtain⟨n2,rfl⟩:∃n2,n=n2+2:=⟨n-2,by have:=HN.out;omega⟩
   have HP:=U (HS.out _ _ _ (Rel.ok (akg (n:=n2) qA.out hp)));have I1:=U i1;have I4:=U i4;have aas:run rQ t.tail=.ok (-(hd t.tail.tail).n) t.tail.tail.tail:=by
    unfold rQ num;rw[um i2];have e2:run (bd (tk 2) fun x=>rt x.2) t.tail.tail=.ok (hd t.tail.tail).n t.tail.tail.tail:=by rw[dN (tO i3)];rfl
    rw[dN e2];rfl
   have HT:=U aas;clear hp i1 i2 i3 i4 aas hlen HS;go_wp2_with fail;refine qr HB (qX fK _ (HR.out.low qe) bS bS) ?_;clear HB HR;rintro x24 LG u24 v24 Cu r24 q24 rfl HR HB;obtain⟨rfl,rfl⟩:=BG I1.out r24;replace Z:=bV Z Cu;replace Y:=jo Y Cu;clear q24 r24;go_wp2_with fail;refine qr HB (am5 _ (HR.out.low qe)) ?_;clear HB HR;rintro x25 Il u25 v25 kN r25 q25 rfl HR HB;obtain⟨rfl,rfl,rfl⟩:Il=false/\u25=t.tail.tail.tail/\x25 = -(hd t.tail.tail).n:=by
    rcases r25.2 rfl with⟨h1,h2⟩|⟨h1,h2⟩
    · rw[HT.out] at h1;cases h1;exact⟨h2,rfl,rfl⟩
    · rw[HT.out] at h1;cases h1
   replace Z:=bV Z kN;replace Y:=jo Y kN;clear q25 r25;obtain⟨l0,l1,l2,l3,fy⟩:=df Y.out;go_wp2_with fail;replace Y:=U (mi (a:=.int .i64 1) (b:=.string ⟨#[]⟩) (c:=.int .i64 (-(hd t.tail.tail).n)) (d:=.slice ae 0 0) Y.out rfl);replace Z:=U (cO (w2:=(((kN.setCell ⟨w.heap.size+1,0,ae⟩ (.int .i64 1)).setCell ⟨w.heap.size+1,1,ae⟩ (.string ⟨#[]⟩)).setCell ⟨w.heap.size+1,2,ae⟩ (.int .i64 (-(hd t.tail.tail).n))).setCell ⟨w.heap.size+1,3,ae⟩ (.slice ae 0 0)) Z.out qe);clear l0 l1 l2 l3 fy;refine qr HB (qX iG _ (HR.out.low qe) bS bS) ?_;clear HB HR;rintro OA Bw u26 v26 ma r26 q26 rfl HR HB;obtain⟨rfl,rfl⟩:=BG I4.out r26;replace Z:=bV Z ma;replace Y:=jo Y ma;clear q26 r26;obtain⟨l0,l1,l2,l3,-⟩:=df Y.out;obtain⟨y0,y1,y2,y3,fz⟩:=df Z.out;go_wp2_with fail;have bZ:=HB.out;refine af (v:=.agg (b_ (fo 1 (-(hd t.tail.tail).n)) (ae) 0 0)) ?_ rfl (QO.mk (V:=VX) (x:=fo 1 (-(hd t.tail.tail).n)) ⟨(ae),0,0,rfl,?_⟩ qe (HR.out.low qe) HP.out)
   · exact sJ
   · exact Ex.bW.zero
 go_wp2_with fail;refine gp HR HB (iF fK _ (HR.out.low qe) bS bS) ?_;clear HR HB;rintro GK q-HR HB;rw[Qb.out];replace Z:=bV Z GK;replace Y:=jo Y GK;clear q;have wJ:=Y.out.lt;cases z12
 rotate_left 1
 · skip
   obtain⟨rfl,hi⟩:b=false/\is fK t=true:=by have h:=Qb.out;simpa using h
   have HI:=U hi;have HK:ai (¬(hd t).k=0):=U awL;clear hi;replace HX:=U (HX.out rfl);replace HN:=U (HN.out rfl);have hp:pat t=false:=by have h:=Qa.out;simpa using h
   replace HS:=GA (UR HS HI.out) (fun _=>akf qA.out hp);have HT:ai (t.tail.length<n):=U (by have h1:=(kU qA.out bS HI.out).2;have h2:=HN.out;omega);clear hp;go_wp2_with fail;refine qo HS HB (qX fK _ (HR.out.low qe) bS bS) ?_;clear HS HB HR;rintro x27 b27 u27 v27 U2 r27 HS q27 rfl HR HB;obtain⟨rfl,rfl⟩:=BG HI.out r27;replace Z:=bV Z U2;replace Y:=jo Y U2;clear q27 r27;have aqr:=Y.out.lt;go_wp2_with fail;refine qo HS HB (HX.out.xe _ _ _ (HR.out.low qe) (fun _=>HT.out)) ?_;clear HS HB HR;rintro x28 b28 u28 v28 EM-HS q28 ⟨p3,m3,c3,rfl,k3⟩ HR HB;replace Z:=bV Z EM;replace Y:=jo Y EM;clear q28;have K3:ai (bW (fun b=>w.heap.size<b/\¬b=w.heap.size+1) EM x28 p3 m3):=U (k3.mono fun b hb hlt=>by have hb2:U2.heap.size<=b:=hb;exact⟨by omega,by omega⟩);clear k3;dsimp only [b_];obtain⟨l0,l1,l2,l3,fy⟩:=df Y.out;go_wp2_with fail;have KS:ai (bW (fun b=>w.heap.size<b/\¬b=w.heap.size+1) ((((EM.setCell ⟨w.heap.size+1,0,ae⟩ (.int .i64 x28.o)).setCell ⟨w.heap.size+1,1,ae⟩ (.string x28.s)).setCell ⟨w.heap.size+1,2,ae⟩ (.int .i64 x28.n)).setCell ⟨w.heap.size+1,3,ae⟩ (.slice p3 m3 c3)) x28 p3 m3):=by
    have qS:bT (fun b=>w.heap.size<b/\¬b=w.heap.size+1) EM ((((EM.setCell ⟨w.heap.size+1,0,ae⟩ (.int .i64 x28.o)).setCell ⟨w.heap.size+1,1,ae⟩ (.string x28.s)).setCell ⟨w.heap.size+1,2,ae⟩ (.int .i64 x28.n)).setCell ⟨w.heap.size+1,3,ae⟩ (.slice p3 m3 c3)):=by
     refine bT.set (bT.set (bT.set (bT.set (bT.refl _ _) ?_) ?_) ?_) ?_ <;> exact .inr fun h=>h.2 rfl
    exact U (Ex.bW.map qS.size (fun b hb hlt=>⟨hb,qS.block b hlt hb⟩) _ K3.out)
   replace Y:=U (mi (a:=.int .i64 x28.o) (b:=.string x28.s) (c:=.int .i64 x28.n) (d:=.slice p3 m3 c3) Y.out rfl);replace Z:=U (cO (w2:=((((EM.setCell ⟨w.heap.size+1,0,ae⟩ (.int .i64 x28.o)).setCell ⟨w.heap.size+1,1,ae⟩ (.string x28.s)).setCell ⟨w.heap.size+1,2,ae⟩ (.int .i64 x28.n)).setCell ⟨w.heap.size+1,3,ae⟩ (.slice p3 m3 c3))) Z.out qe);clear l0 l1 l2 l3 fy K3;refine qo HS HB (qX iG _ (HR.out.low qe) bS bS) ?_;clear HS HB HR;rintro x29 b29 u29 v29 U3-HS TU rfl HR HB;replace Z:=bV Z U3;replace Y:=jo Y U3;replace KS:=U (Ex.bW.map (H:=fun b=>w.heap.size<b/\¬b=w.heap.size+1) TU.size (fun b hb hlt=>⟨hb,TU.block b hlt (by have:=hb.1;omega)⟩) _ KS.out);clear TU;obtain⟨l0,l1,l2,l3,-⟩:=df Y.out;obtain⟨y0,y1,y2,y3,fz⟩:=df Z.out;go_wp2_with fail;have bZ:=HB.out;refine af (v:=.agg (b_ (x28) (p3) m3 c3)) ?_ rfl (QO.mk (V:=VX) (x:=x28) ⟨(p3),m3,c3,rfl,?_⟩ qe (HR.out.low qe) (uY HS))
   · exact sJ
   · have KK:=KS.out;have qE:∀W,bT (fun b=>w.heap.size<b/\¬b=w.heap.size+1) U3 W->bW (fun b=>w.heap.size<=b) W x28 p3 m3:=fun W q=>Ex.bW.map q.size (fun b hb hlt=>⟨Nat.le_of_lt hb.1,q.block b hlt hb⟩) _ KK;exact qE _ qe
 replace HS:=UQ HS Qb.out;go_wp2_with fail;refine qo HS HB (ab6 _ (HR.out.low qe)) ?_;clear HS HB HR;rintro x30 b30 u30 v30 w30-HS q30 rfl HR HB;replace Z:=bV Z w30;replace Y:=jo Y w30;clear q30;obtain⟨l0,l1,l2,l3,fy⟩:=df Y.out;obtain⟨y0,y1,y2,y3,fz⟩:=df Z.out;go_wp2_with fail;have bZ:=HB.out;refine af (v:=.agg (b_ (uQ 3 x30) (ae) 0 0)) ?_ rfl (QO.mk (V:=VX) (x:=uQ 3 x30) ⟨(ae),0,0,rfl,?_⟩ qe (HR.out.low qe) (uY HS))
 · exact aw0
 · exact Ex.bW.zero
end
end Ps
namespace Ps
open Ps.P (rt bd acc)
open Go.RowKit
open Lx (Tk)
open Ex (Ex bW)
open Md (bX)
def tN:List (ByteArray×(Ex->Ex->Ex)):=[(qx,fun x y=>dF 14 x y),(yZ,fun x y=>dF 15 x y),(yY,fun x y=>dF 16 x y),(yX,fun x y=>dF 17 x y),(yV,fun x y=>dF 16 y x),(yU,fun x y=>dF 17 y x)]
def rF (f:P Ex) (x:Ex):List (ByteArray×(Ex->Ex->Ex))->P Ex
 | []=>rt x
 | q::r=>acc q.1 (bd (sum f) fun y=>rt (q.2 x y)) (rF f x r)
theorem ah8 (f:P Ex):cmp f=bd (sum f) fun x=>rF f x tN:=rfl
structure De (L:Lk) (g:Nat) (m0:P Ex) (b0:Bool) (t0:List Tk) (f:P Ex) (x:Ex) (p:Option Addr) (m c:Nat) (b1:Bool) (u1:List Tk) (w:World) (B k:Nat) (wr:World):Prop where
 go:To m0 b0 t0 (rF f x (tN.drop k)) b1 u1
 rd:Rp L g b1 u1 wr
 bt:Bt g w wr
 y:bX wr B 26 (b_ x p m c)
 z:bX wr w.heap.size 26 #[.int .i64 0,.string ⟨#[]⟩,.int .i64 0,.slice ae 0 0]
 sg:bX wr (B+1) 9 #[.string qx,.string yZ,.string yY,.string yX,.string yV,.string yU]
 kin:bW (fun b=>w.heap.size<b/\¬b=B/\¬b=B+1) wr x p m
section
variable {L:Lk} {g:Nat} {b:Bool} {t:List Tk} {n:Nat}
theorem ayV {p:Prop} (h:p:=by
 exact sJ
 ):p:=h
theorem ayz {p:Prop} (h:p:=by
 rw[hmk] at HS;have HGU:=U (kU HR.out.gd bS hi);have HI:=U hi;clear hi HZ;have HD2:=U (HD.out rfl);have CX:=U hmk;clear hmk;go_wp2_with fail;refine qr HB (qX _ _ (HR.out.low qe) bS bS) ?_;clear HB HR;rintro x2 b2 u2 v2 w2 r2 q2 rfl HR HB;obtain⟨rfl,rfl⟩:=BG HI.out r2;replace Z:=bV Z w2;replace Y:=bV Y w2;replace SB:=bV SB w2;have hz2:=Y.out.lt;have hs2:=SB.out.lt;replace KN:ai (bW (fun b=>w.heap.size<b/\¬b=w1.heap.size/\¬b=w1.heap.size+1) w2 x1 p1 m1):=U (Ex.bW.map q2.size (fun b hb hlt=>⟨hb,q2.block b hlt bU⟩) _ KN.out);clear q2 r2 SB;go_wp2_with fail;refine qo HS HB (HC.out _ _ _ (HR.out.low qe) (fun _=>by have h1:=HD2.out;have h2:=HGU.out.2;exact⟨h1.1,by omega⟩)) ?_;clear HS HB HR;rintro x3 b3 u3 v3 w3-HS q3 ⟨p3,m3,c3,rfl,k3⟩ HR HB;replace Z:=bV Z w3;replace Y:=bV Y w3;have s3:w2.heap.size<=w3.heap.size:=q3.size;have K3:=jv k3 w.heap.size;replace KN:ai (bW (fun b=>w.heap.size<b) w3 x1 p1 m1):=U (Ex.bW.map q3.size (fun b hb hlt=>⟨hb.1,q3.block b hlt bU⟩) _ KN.out);clear q3 k3;dsimp only [b_];obtain⟨l0,l1,l2,l3,-⟩:=df Y.out;have hbY:w1.heap.size<w3.heap.size:=by omega
 go_wp2_with fail;refine(ado _ _ _ _ _ _ _ _ _ _).mono ?_;rintro e w4 ⟨hb4,B4,hB4,rfl,hk4⟩;have hB5:w.heap.size<B4:=by simp at hB4;omega
 have q:Bt g _ w4:=bT.of hb4;have R4:=HR.out.low (w2:=w4) (oJ hb4);have Jr:∀(y:Ex) (r:Option Addr) (j:Nat),bW (fun b=>w.heap.size<b) w3 y r j->bW (fun b=>w.heap.size<b) (w3.alloc (.cells #[.int .i64 x3.o,.string x3.s,.int .i64 x3.n,.slice p3 m3 c3] 26)) y r j:=fun y r j h=>Ex.bW.map cz (fun b hb hlt=>⟨hb,by show(w3.heap.push _)[b]?=_;rw[Array.getElem?_push,if_neg bU]⟩) y h;have k4:=hk4 (fun b=>w.heap.size<b) (by first|exact Jr _ _ _ KN.out|exact Jr _ _ _ K3.out) (by first|exact Jr _ _ _ K3.out|exact Jr _ _ _ KN.out) hB5;rw[congrFun CX.out x3] at k4 ⊢;have K4:=U k4
 generalize mk x3=nd at *
 replace Z:=bV Z w4;replace HB:=dJ HB w4;replace HR:=U R4;clear q hb4 R4 hk4 k4 Jr K3 KN l0 l1 l2 l3 CX;dsimp only [b_];obtain⟨y0,y1,y2,y3,fz⟩:=df Z.out;go_wp2_with fail;have bZ:=HB.out;refine af (v:=.agg (b_ (nd) (aj ⟨B4,0,ae⟩) 2 2)) ?_ rfl (QO.mk (V:=VX) (x:=nd) ⟨(aj ⟨B4,0,ae⟩),2,2,rfl,?_⟩ qe (HR.out.low qe) (uY HS))
 · exact ayV
 · have KK:=K4.out;exact iQ KK qe
 ):p:=h
set_option maxHeartbeats 20000000 in
theorem am6 (hX:b=false->XQ L g n) (w:World) (hR:Rp L g b t w) (hn:b=false->t.length<=n) (hC:∀W c u,Rp L g c u W->(c=false->b=false/\u.length<=t.length)->Calls ag 125 #[.pointer (aj ⟨g,0,ae⟩)] W (QO L g VX (sum (fF (n+1))) c u W)):Calls ag 75 #[.pointer (aj ⟨g,0,ae⟩)] w (QO L g VX (fN (n+1)) b t w):=by
 rw[IQ];have HX:=U hX;have HN:=U hn;have HC:=U hC;clear hX hn hC;have hg:=hR.blk;have HR:=U hR;have HB:ai (Bt g w w):=U (bT.refl _ _);have HS:ai (To (qP (fF (n+1)) (fN n)) b t (qP (fF (n+1)) (fN n)) b t):=yE;have Z:=jR w;have qA:=U hR.gd;obtain⟨z,hz⟩:∃z,(!b&&is DW t)=z:=⟨_,rfl⟩
 have HZ:=U hz;clear hz hR;go_enter Tryz.func75,Tryz.ntmps75;go_wp2_with fail;refine(qL DW _ (HR.out.low qe) bS bS).mono ?_;rintro e wt ⟨rfl,hbt⟩;rw[HZ.out];have q:Bt g _ wt:=bT.of hbt;have Rt:=HR.out.low (w2:=wt) (oJ hbt);replace Z:=bV Z wt;replace HB:=dJ HB wt;replace HR:=U Rt;have hz1:=Z.out.lt;clear q hbt Rt
 cases z with
 | true=>
  obtain⟨rfl,hi⟩:b=false/\is DW t=true:=by have h:=HZ.out;simpa using h
  have HI:=U hi;replace HX:=U (HX.out rfl);have HT:ai (t.tail.length<n):=U (by have h1:=(kU qA.out bS hi).2;have h2:=HN.out rfl;omega);clear hi;go_wp2_with fail;refine qr HB (Ow DW _ (HR.out.low qe) bS bS) ?_;clear HB HR;rintro x2 b2 u2 v2 w2 r2 q2 rfl HR HB;obtain⟨rfl,rfl⟩:=BG HI.out r2;replace HS:=pY HS HI.out;replace Z:=bV Z w2;clear q2 r2;go_wp2_with fail;have hz2:=Z.out.lt;refine qo HS HB (HX.out.xn _ _ _ (HR.out.low qe) (fun _=>HT.out)) ?_;clear HS HB HR;rintro x3 b3 u3 v3 w3-HS q3 ⟨p3,m3,c3,rfl,k3⟩ HR HB;replace Z:=bV Z w3;clear q3;have hz3:=Z.out.lt;have K3:=jv k3 w.heap.size;clear k3;dsimp only [b_];go_wp2_with fail;refine(Nz _ _ _ _ _ _).mono ?_;rintro e w4 ⟨hb4,B4,hB4,rfl,hk4⟩;have q:Bt g _ w4:=bT.of hb4;have R4:=HR.out.low (w2:=w4) (oJ hb4);have K4:=U (hk4 _ K3.out bU);replace Z:=bV Z w4;replace HB:=dJ HB w4;replace HR:=U R4;clear q hb4 R4 hk4 K3;dsimp only [b_];obtain⟨y0,y1,y2,y3,fz⟩:=df Z.out;go_wp2_with fail;have bZ:=HB.out;refine af (v:=.agg (b_ (iR 6 x3) (aj ⟨B4,0,ae⟩) 1 1)) ?_ rfl (QO.mk (V:=VX) (x:=iR 6 x3) ⟨(aj ⟨B4,0,ae⟩),1,1,rfl,?_⟩ qe (HR.out.low qe) (uY HS))
  · exact ayV
  · have KK:=K4.out;exact iQ KK qe
 | false=>
  replace HS:=pX HS HZ.out;rw[ah8] at HS;clear HZ;go_wp2_with fail;refine qo HS HB (HC.out _ _ _ (HR.out.low qe) (fun h=>⟨h,Nat.le_refl _⟩)) ?_;clear HS HB HR;rintro x1 b1 u1 v1 w1 r1 HS q1 ⟨p1,m1,c1,rfl,k1⟩ HR HB;have HD:ai (b1=false->b=false/\u1.length<=t.length):=U fun h=>(by obtain⟨h0,h1⟩:=AY (Ao (IG _)) qA.out r1 h;exact⟨h0,by omega⟩)
  replace Z:=bV Z w1;clear q1 r1;have K1:ai (bW (fun b=>w.heap.size<b/\b<w1.heap.size) w1 x1 p1 m1):=U (k1.mono fun b hb hlt=>by have hb2:wt.heap.size<=b:=hb;exact⟨by omega,hlt⟩);have hzz:=Z.out.lt;have Y:=U (bX.new (w:=w1) (t:=26) (c:=#[.int .i64 x1.o,.string x1.s,.int .i64 x1.n,.slice p1 m1 c1]));have S0:=bX.new (w:=w1.alloc (.cells #[.int .i64 x1.o,.string x1.s,.int .i64 x1.n,.slice p1 m1 c1] 26)) (t:=9) (c:=#[.string qx,.string yZ,.string yY,.string yX,.string yV,.string yU]);rw[show(w1.alloc (.cells #[.int .i64 x1.o,.string x1.s,.int .i64 x1.n,.slice p1 m1 c1] 26)).heap.size=w1.heap.size+1 by simp] at S0;have SB:=U S0;clear k1 S0;dsimp only [b_];go_wp2_with fail;go_loopw [5] (fun i wr=>∃k:Nat,k<=6/\i=.int .i64 (k:Nat)/\De L g (qP (fF (n+1)) (fN n)) b t (fF (n+1)) x1 p1 m1 c1 b1 u1 w w1.heap.size k wr) (fun i _=>6-(intOf i).toNat)
  case atStart=>
   refine⟨0,by omega,rfl,HS.out,HR.out.low qe,by have bZ:=HB.out;exact qe,cO Y.out qe,cO Z.out qe,SB.out,?_⟩;exact Ex.bW.map vD (fun b hb hlt=>⟨⟨hb.1,by omega,by omega⟩,by show(Array.push (Array.push _ _) _)[b]?=_;rw[Array.getElem?_push,if_neg vD,Array.getElem?_push,if_neg bU]⟩) x1 K1.out
  case round=>
   obtain⟨k,hk6,rfl,⟨hto,hrd,hbt,hy,hzb,hsg,dP⟩⟩:=hrel;clear HS HB HR Y Z SB K1;have HS:=U hto;have HR:=U hrd;have HB:=U hbt;have Y:=U hy;have Z:=U hzb;have SB:=U hsg;have KN:=U dP;have hgB:¬w1.heap.size=g:=by omega
   have hgC:¬w1.heap.size+1=g:=by omega
   clear hto hrd hbt hy hzb hsg dP;rcases (show k=0∨k=1∨k=2∨k=3∨k=4∨k=5∨k=6 by omega) with rfl|rfl|rfl|rfl|rfl|rfl|rfl
   · skip
     have sK:ah wr ⟨w1.heap.size+1,0,ae⟩=aj (.string qx):=SB.out.get rfl;obtain⟨z,hz⟩:∃z,(!b1&&is qx u1)=z:=⟨_,rfl⟩
     have HZ:=U hz;clear hz;go_wp2_with fail;clear sK;refine gp HR HB (iF qx _ (HR.out.low qe) bS bS) ?_;clear HR HB;rintro ws q hbs HR HB;rw[HZ.out];replace Z:=bV Z ws;replace Y:=bV Y ws;replace SB:=bV SB ws;replace KN:ai (bW (fun b=>w.heap.size<b/\¬b=w1.heap.size/\¬b=w1.heap.size+1) ws x1 p1 m1):=U (Ex.bW.map hbs.size (fun b hb hlt=>⟨hb,hbs.block b hlt⟩) _ KN.out);clear q hbs
     cases z with
     | true=>
      obtain⟨rfl,hi⟩:b1=false/\is qx u1=true:=by have h:=HZ.out;simpa using h
      obtain⟨mk,hmk⟩:∃mk:Ex->Ex,(fun y=>dF 14 x1 y)=mk:=⟨_,rfl⟩
      replace HS:=pY (show ai (To _ _ _ (acc qx (bd (sum (fF (n+1))) fun y=>rt ((fun y=>dF 14 x1 y) y)) (rF (fF (n+1)) x1 (tN.drop 1))) false u1) from HS) hi;exact ayz
     | false=>
      replace HS:=pX (show ai (To _ _ _ (acc qx (bd (sum (fF (n+1))) fun y=>rt (dF 14 x1 y)) (rF (fF (n+1)) x1 (tN.drop 1))) b1 u1) from HS) HZ.out;have HQ:=U (show De L g (qP (fF (n+1)) (fN n)) b t (fF (n+1)) x1 p1 m1 c1 b1 u1 w w1.heap.size 1 ws from⟨HS.out,HR.out,HB.out,Y.out,Z.out,SB.out,KN.out⟩);clear HS HR HB Y Z SB KN HZ;go_wp2_with fail;go_roundw
      case rel=>exact⟨1,by omega,rfl,HQ.out⟩
      case measure=>simp[intOf]
   · skip
     have sK:ah wr ⟨w1.heap.size+1,1,ae⟩=aj (.string yZ):=SB.out.get rfl;obtain⟨z,hz⟩:∃z,(!b1&&is yZ u1)=z:=⟨_,rfl⟩
     have HZ:=U hz;clear hz;go_wp2_with fail;clear sK;refine gp HR HB (iF yZ _ (HR.out.low qe) bS bS) ?_;clear HR HB;rintro ws q hbs HR HB;rw[HZ.out];replace Z:=bV Z ws;replace Y:=bV Y ws;replace SB:=bV SB ws;replace KN:ai (bW (fun b=>w.heap.size<b/\¬b=w1.heap.size/\¬b=w1.heap.size+1) ws x1 p1 m1):=U (Ex.bW.map hbs.size (fun b hb hlt=>⟨hb,hbs.block b hlt⟩) _ KN.out);clear q hbs
     cases z with
     | true=>
      obtain⟨rfl,hi⟩:b1=false/\is yZ u1=true:=by have h:=HZ.out;simpa using h
      obtain⟨mk,hmk⟩:∃mk:Ex->Ex,(fun y=>dF 15 x1 y)=mk:=⟨_,rfl⟩
      replace HS:=pY (show ai (To _ _ _ (acc yZ (bd (sum (fF (n+1))) fun y=>rt ((fun y=>dF 15 x1 y) y)) (rF (fF (n+1)) x1 (tN.drop 2))) false u1) from HS) hi;exact ayz
     | false=>
      replace HS:=pX (show ai (To _ _ _ (acc yZ (bd (sum (fF (n+1))) fun y=>rt (dF 15 x1 y)) (rF (fF (n+1)) x1 (tN.drop 2))) b1 u1) from HS) HZ.out;have HQ:=U (show De L g (qP (fF (n+1)) (fN n)) b t (fF (n+1)) x1 p1 m1 c1 b1 u1 w w1.heap.size 2 ws from⟨HS.out,HR.out,HB.out,Y.out,Z.out,SB.out,KN.out⟩);clear HS HR HB Y Z SB KN HZ;go_wp2_with fail;go_roundw
      case rel=>exact⟨2,by omega,rfl,HQ.out⟩
      case measure=>simp[intOf]
   · skip
     have sK:ah wr ⟨w1.heap.size+1,2,ae⟩=aj (.string yY):=SB.out.get rfl;obtain⟨z,hz⟩:∃z,(!b1&&is yY u1)=z:=⟨_,rfl⟩
     have HZ:=U hz;clear hz;go_wp2_with fail;clear sK;refine gp HR HB (iF yY _ (HR.out.low qe) bS bS) ?_;clear HR HB;rintro ws q hbs HR HB;rw[HZ.out];replace Z:=bV Z ws;replace Y:=bV Y ws;replace SB:=bV SB ws;replace KN:ai (bW (fun b=>w.heap.size<b/\¬b=w1.heap.size/\¬b=w1.heap.size+1) ws x1 p1 m1):=U (Ex.bW.map hbs.size (fun b hb hlt=>⟨hb,hbs.block b hlt⟩) _ KN.out);clear q hbs
     cases z with
     | true=>
      obtain⟨rfl,hi⟩:b1=false/\is yY u1=true:=by have h:=HZ.out;simpa using h
      obtain⟨mk,hmk⟩:∃mk:Ex->Ex,(fun y=>dF 16 x1 y)=mk:=⟨_,rfl⟩
      replace HS:=pY (show ai (To _ _ _ (acc yY (bd (sum (fF (n+1))) fun y=>rt ((fun y=>dF 16 x1 y) y)) (rF (fF (n+1)) x1 (tN.drop 3))) false u1) from HS) hi;exact ayz
     | false=>
      replace HS:=pX (show ai (To _ _ _ (acc yY (bd (sum (fF (n+1))) fun y=>rt (dF 16 x1 y)) (rF (fF (n+1)) x1 (tN.drop 3))) b1 u1) from HS) HZ.out;have HQ:=U (show De L g (qP (fF (n+1)) (fN n)) b t (fF (n+1)) x1 p1 m1 c1 b1 u1 w w1.heap.size 3 ws from⟨HS.out,HR.out,HB.out,Y.out,Z.out,SB.out,KN.out⟩);clear HS HR HB Y Z SB KN HZ;go_wp2_with fail;go_roundw
      case rel=>exact⟨3,by omega,rfl,HQ.out⟩
      case measure=>simp[intOf]
   · skip
     have sK:ah wr ⟨w1.heap.size+1,3,ae⟩=aj (.string yX):=SB.out.get rfl;obtain⟨z,hz⟩:∃z,(!b1&&is yX u1)=z:=⟨_,rfl⟩
     have HZ:=U hz;clear hz;go_wp2_with fail;clear sK;refine gp HR HB (iF yX _ (HR.out.low qe) bS bS) ?_;clear HR HB;rintro ws q hbs HR HB;rw[HZ.out];replace Z:=bV Z ws;replace Y:=bV Y ws;replace SB:=bV SB ws;replace KN:ai (bW (fun b=>w.heap.size<b/\¬b=w1.heap.size/\¬b=w1.heap.size+1) ws x1 p1 m1):=U (Ex.bW.map hbs.size (fun b hb hlt=>⟨hb,hbs.block b hlt⟩) _ KN.out);clear q hbs
     cases z with
     | true=>
      obtain⟨rfl,hi⟩:b1=false/\is yX u1=true:=by have h:=HZ.out;simpa using h
      obtain⟨mk,hmk⟩:∃mk:Ex->Ex,(fun y=>dF 17 x1 y)=mk:=⟨_,rfl⟩
      replace HS:=pY (show ai (To _ _ _ (acc yX (bd (sum (fF (n+1))) fun y=>rt ((fun y=>dF 17 x1 y) y)) (rF (fF (n+1)) x1 (tN.drop 4))) false u1) from HS) hi;exact ayz
     | false=>
      replace HS:=pX (show ai (To _ _ _ (acc yX (bd (sum (fF (n+1))) fun y=>rt (dF 17 x1 y)) (rF (fF (n+1)) x1 (tN.drop 4))) b1 u1) from HS) HZ.out;have HQ:=U (show De L g (qP (fF (n+1)) (fN n)) b t (fF (n+1)) x1 p1 m1 c1 b1 u1 w w1.heap.size 4 ws from⟨HS.out,HR.out,HB.out,Y.out,Z.out,SB.out,KN.out⟩);clear HS HR HB Y Z SB KN HZ;go_wp2_with fail;go_roundw
      case rel=>exact⟨4,by omega,rfl,HQ.out⟩
      case measure=>simp[intOf]
   · skip
     have sK:ah wr ⟨w1.heap.size+1,4,ae⟩=aj (.string yV):=SB.out.get rfl;obtain⟨z,hz⟩:∃z,(!b1&&is yV u1)=z:=⟨_,rfl⟩
     have HZ:=U hz;clear hz;go_wp2_with fail;clear sK;refine gp HR HB (iF yV _ (HR.out.low qe) bS bS) ?_;clear HR HB;rintro ws q hbs HR HB;rw[HZ.out];replace Z:=bV Z ws;replace Y:=bV Y ws;replace SB:=bV SB ws;replace KN:ai (bW (fun b=>w.heap.size<b/\¬b=w1.heap.size/\¬b=w1.heap.size+1) ws x1 p1 m1):=U (Ex.bW.map hbs.size (fun b hb hlt=>⟨hb,hbs.block b hlt⟩) _ KN.out);clear q hbs
     cases z with
     | true=>
      obtain⟨rfl,hi⟩:b1=false/\is yV u1=true:=by have h:=HZ.out;simpa using h
      obtain⟨mk,hmk⟩:∃mk:Ex->Ex,(fun y=>dF 16 y x1)=mk:=⟨_,rfl⟩
      replace HS:=pY (show ai (To _ _ _ (acc yV (bd (sum (fF (n+1))) fun y=>rt ((fun y=>dF 16 y x1) y)) (rF (fF (n+1)) x1 (tN.drop 5))) false u1) from HS) hi;exact ayz
     | false=>
      replace HS:=pX (show ai (To _ _ _ (acc yV (bd (sum (fF (n+1))) fun y=>rt (dF 16 y x1)) (rF (fF (n+1)) x1 (tN.drop 5))) b1 u1) from HS) HZ.out;have HQ:=U (show De L g (qP (fF (n+1)) (fN n)) b t (fF (n+1)) x1 p1 m1 c1 b1 u1 w w1.heap.size 5 ws from⟨HS.out,HR.out,HB.out,Y.out,Z.out,SB.out,KN.out⟩);clear HS HR HB Y Z SB KN HZ;go_wp2_with fail;go_roundw
      case rel=>exact⟨5,by omega,rfl,HQ.out⟩
      case measure=>simp[intOf]
   · skip
     have sK:ah wr ⟨w1.heap.size+1,5,ae⟩=aj (.string yU):=SB.out.get rfl;obtain⟨z,hz⟩:∃z,(!b1&&is yU u1)=z:=⟨_,rfl⟩
     have HZ:=U hz;clear hz;go_wp2_with fail;clear sK;refine gp HR HB (iF yU _ (HR.out.low qe) bS bS) ?_;clear HR HB;rintro ws q hbs HR HB;rw[HZ.out];replace Z:=bV Z ws;replace Y:=bV Y ws;replace SB:=bV SB ws;replace KN:ai (bW (fun b=>w.heap.size<b/\¬b=w1.heap.size/\¬b=w1.heap.size+1) ws x1 p1 m1):=U (Ex.bW.map hbs.size (fun b hb hlt=>⟨hb,hbs.block b hlt⟩) _ KN.out);clear q hbs
     cases z with
     | true=>
      obtain⟨rfl,hi⟩:b1=false/\is yU u1=true:=by have h:=HZ.out;simpa using h
      obtain⟨mk,hmk⟩:∃mk:Ex->Ex,(fun y=>dF 17 y x1)=mk:=⟨_,rfl⟩
      replace HS:=pY (show ai (To _ _ _ (acc yU (bd (sum (fF (n+1))) fun y=>rt ((fun y=>dF 17 y x1) y)) (rF (fF (n+1)) x1 (tN.drop 6))) false u1) from HS) hi;exact ayz
     | false=>
      replace HS:=pX (show ai (To _ _ _ (acc yU (bd (sum (fF (n+1))) fun y=>rt (dF 17 y x1)) (rF (fF (n+1)) x1 (tN.drop 6))) b1 u1) from HS) HZ.out;have HQ:=U (show De L g (qP (fF (n+1)) (fN n)) b t (fF (n+1)) x1 p1 m1 c1 b1 u1 w w1.heap.size 6 ws from⟨HS.out,HR.out,HB.out,Y.out,Z.out,SB.out,KN.out⟩);clear HS HR HB Y Z SB KN HZ;go_wp2_with fail;go_roundw
      case rel=>exact⟨6,by omega,rfl,HQ.out⟩
      case measure=>simp[intOf]
   · skip
     obtain⟨l0,l1,l2,l3,-⟩:=df Y.out;obtain⟨y0,y1,y2,y3,fz⟩:=df Z.out;go_wp2_with fail;have bZ:=HB.out;refine af (v:=.agg (b_ (x1) (p1) m1 c1)) ?_ rfl (QO.mk (V:=VX) (x:=x1) ⟨(p1),m1,c1,rfl,?_⟩ qe (HR.out.low qe) (uY HS))
     · exact ayV
     · have KK:=KN.out;have qE:∀W,bT (fun b=>w.heap.size<b/\¬b=w1.heap.size/\¬b=w1.heap.size+1) wr W->bW (fun b=>w.heap.size<=b) W x1 p1 m1:=fun W q=>Ex.bW.map q.size (fun b hb hlt=>⟨Nat.le_of_lt hb.1,q.block b hlt hb⟩) _ KK;exact qE _ qe
end
end Ps
namespace Ps
open Go.RowKit
open Lx (Tk)
open Ex (Gives)
section
variable {L:Lk} {g:Nat} {b:Bool} {t:List Tk}
theorem alV (w:World) (hR:Rp L g b t w):Calls ag 244 #[.pointer (aj ⟨g,0,ae⟩)] w (Gives (.bool (!b&&pat t)) w):=alX w hR fun hb hi h5=>by subst hb;exact alW w hR hi h5
theorem TY {α:Type} {V:Nat->World->α->Value->Prop} {m m':P α} {w w':World} {e:Ending} (h:QO L g V m true t w e w'):QO L g V m' true t w e w':=by
 obtain⟨x,b',u,v,h1,h2,h3,h4,h5⟩:=h;exact⟨x,b',u,v,h1,h2,h3,h4,h5.1,fun e=>(by cases e)⟩
section
variable {n:Nat}
theorem U_ {c:Bool} {u:List Tk} (W:World) (hR:Rp L g c u W) (hX:c=false->XQ L g n) (hn:c=false->u.length<=n):Calls ag 209 #[.pointer (aj ⟨g,0,ae⟩)] W (QO L g VX (fF (n+1)) c u W):=by
 rw[DF];exact am4 hX W hR hn fun W' hR'=>am8 hX W' hR' hn fun W'' akh=>alV W'' akh
theorem aqk {c:Bool} {u:List Tk} (W:World) (hR:Rp L g c u W) (hX:c=false->XQ L g n) (hn:c=false->u.length<=n):Calls ag 125 #[.pointer (aj ⟨g,0,ae⟩)] W (QO L g VX (sum (fF (n+1))) c u W):=
 am_ (Ry (IG _)) W hR fun W1 c1 u1 DL h1=>am9 (IG _) W1 DL fun W2 c2 u2 hR2 h2=>U_ W2 hR2 (fun e=>hX (h1 (h2 e).1).1) (fun e=>by
  have a:=h2 e;have d:=h1 a.1;have f:=hn d.1;omega)
theorem Va {c:Bool} {u:List Tk} (W:World) (hR:Rp L g c u W) (hX:c=false->XQ L g n) (hn:c=false->u.length<=n):Calls ag 75 #[.pointer (aj ⟨g,0,ae⟩)] W (QO L g VX (fN (n+1)) c u W):=
 am6 hX W hR hn fun W1 c1 u1 DL h1=>aqk W1 DL (fun e=>hX (h1 e).1) (fun e=>by
  have a:=h1 e;have f:=hn a.1;omega)
theorem adz {c:Bool} {u:List Tk} (W:World) (hR:Rp L g c u W) (hX:c=false->XQ L g n) (hn:c=false->u.length<=n):Calls ag 15 #[.pointer (aj ⟨g,0,ae⟩)] W (QO L g VX (fE (n+1)) c u W):=by
 rw[IP];exact am7 (Rm (Ro _)) W hR fun W1 c1 u1 DL h1=>am2 (Ro _) W1 DL fun W2 c2 u2 hR2 h2=>Va W2 hR2 (fun e=>hX (h1 (h2 e).1).1) (fun e=>by
  have a:=h2 e;have d:=h1 a.1;have f:=hn d.1;omega)
end
theorem ady (L:Lk) (g:Nat):∀n,XQ L g n
 | 0=>by
  have key:∀(c:Bool) (u:List Tk),(c=false->u.length<0)->c=true:=fun c u h=>by
   cases c with
   | true=>rfl
   | false=>exact absurd (h rfl) (Nat.not_lt_zero _)
  refine⟨fun W c u hR h=>?_,fun W c u hR h=>?_,fun W c u hR h=>?_⟩
  · obtain rfl:=key c u h;exact(adz (n:=0) W hR (fun e=>by cases e) (fun e=>by cases e)).mono fun _ _ q=>TY q
  · obtain rfl:=key c u h;exact(Va (n:=0) W hR (fun e=>by cases e) (fun e=>by cases e)).mono fun _ _ q=>TY q
  · obtain rfl:=key c u h;exact(U_ (n:=0) W hR (fun e=>by cases e) (fun e=>by cases e)).mono fun _ _ q=>TY q
 | n+1=>by
  have hX:=ady L g n;exact⟨fun W c u hR h=>adz W hR (fun _=>hX) (fun e=>by have:=h e;omega),fun W c u hR h=>Va W hR (fun _=>hX) (fun e=>by have:=h e;omega),fun W c u hR h=>U_ W hR (fun _=>hX) (fun e=>by have:=h e;omega)⟩
theorem anc (w:World) (hR:Rp L g b t w):Calls ag 15 #[.pointer (aj ⟨g,0,ae⟩)] w (QO L g VX jO b t w):=(ady L g FU).xe w b t hR (fun _=>by have:=hR.small;unfold FU;omega)
end
end Ps
end Go.Proofs.YthnillhnjhalmaaGreatDoor
