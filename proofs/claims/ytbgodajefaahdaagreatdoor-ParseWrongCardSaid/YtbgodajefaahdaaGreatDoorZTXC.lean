/-
  Parts of this proof: The contracts of the reader's rules for expressi. The ends of texts. Reading results that lie in variables. The contracts of follow. Statements as values that a rule makes. The contract of the reader's begin. The contracts of the reader's send and seize. The contract of the reader's seize. The contract of follow for models.
-/
import Derived.Test.YtbgodajefaahdaaGreatDoorZTGrp
import Derived.Test.YtbgodajefaahdaaGreatDoorZTSum
import Derived.Defers
import Derived.Recover
import Derived.Test.YtbgodajefaahdaaGreatDoorZTLstI
import Derived.Test.YtbgodajefaahdaaGreatDoorZTLstX
set_option linter.unusedVariables false
open Go.Lib (hid)
namespace Go.Proofs.YtbgodajefaahdaaGreatDoor.Ps
open Go.RowKit
open Go.Proofs.YtbgodajefaahdaaGreatDoor.Lx (Tk)
open Go.Proofs.YtbgodajefaahdaaGreatDoor.Ex (Ex Kin)
open Go.Proofs.YtbgodajefaahdaaGreatDoor.Md (Box)
set_option maxHeartbeats 600000
section
variable {L:Lk} {g:Nat} {t:List Tk} {n:Nat}
set_option maxRecDepth 100000 in
theorem negation_any (hX:XC L g n) (w:World) (hR:Rd L g t w) (hn:t.length<=n) (hC:∀W u,Rd L g u W->u.length<=t.length->Calls Tryz.prog 208 #[.pointer (some ⟨g,0,none⟩)] W (PO L g VX (run (fF (n+1)) u) W)):Calls Tryz.prog 143 #[.pointer (some ⟨g,0,none⟩)] w (PO L g VX (run (fN (n+1)) t) w):=by
 have HX:=hid hX;have HC:Hid (∀W u,Rd L g u W->u.length<=t.length->Calls Tryz.prog 197 #[.pointer (some ⟨g,0,none⟩)] W (PO L g VX (run (sum (fF (n+1))) u) W)):=hid fun W u hW hu=>sum_any (dn_fF _) W hW fun W' u' hW' hu'=>hC W' u' hW' (Nat.le_trans hu' hu);have HD:Hid (is kNot t=true->t.tail.length<n):=hid fun h=>by have h2:=hR.gd.ne;rw[List.length_tail];omega
 rw[fN_succ];clear hX hn hC;obtain⟨r,hr⟩:∃r,run (ngt (fF (n+1)) (fN n)) t=r:=⟨_,rfl⟩
 rw[hr];have HS:=hid hr;have hg:=hR.blk;have HR:=hid hR;have HB:Hid (Bt g w w):=hid (Eqv.refl _ _);clear hR hr;have Z:=hid (Box.new (w:=w) (t:=41) (c:=#[.int .i64 0,.string ⟨#[]⟩,.int .i64 0,.slice none 0 0]));go_enter Tryz.func143,Tryz.ntmps143;go_wp2_with fail;refine(accept_any kNot _ (HR.out.low qe) (by decide)).mono ?_;rintro e w1 ⟨b1,⟨i1,rfl,R1⟩|⟨i1,rfl,R1⟩⟩
 · have HT:=hid (HD.out i1);replace HS:=st_yes HS i1;replace Z:=hid (box_at (w2:=w1) Z.out qe);replace HB:Hid (Bt g w w1):=hid qh;replace HR:=hid R1;clear b1 R1;clear i1;go_wp2_with fail;have hz1:=Z.out.lt;refine(HX.out.xn _ _ (HR.out.low qe) HT.out).mono ?_;rintro e w2 h2;rcases h2.cases with⟨x2,u2,v2,r2,rfl,b2,V2,R2⟩|⟨u2,r2,rfl,b2⟩
   rotate_left 1
   · have HBB:=HB.out;go_wp2_with fail;exact⟨rfl,PO.no (st_no HS (by assumption)) qe⟩
   replace HS:=st_ok HS r2;replace Z:=hid (box_at (w2:=w2) Z.out qe);replace HB:Hid (Bt g w w2):=hid qh;replace HR:=hid R2;clear b2 R2;clear r2 h2;obtain⟨p2,m2,c2,rfl,k2⟩:=V2;have KX2:Hid (Kin (fun b=>w.heap.size<b) w2 x2 p2 m2):=hid (k2.mono fun b hb hlt=>(by have hb':_<=b:=hb;first|(simp at hb';omega)|omega));clear k2;dsimp only [cEx];go_wp2_with fail;refine(node_any _ _ _ _ _).mono ?_;rintro e w3 ⟨rfl,hb3⟩;have b3:Bt g _ w3:=Eqv.of hb3;have R3:Rd L g u2 w3:=HR.out.low (by have q:Lw g _ w3:=Eqv.of hb3;exact qe);have hzz:=Z.out.lt;have KN:Hid (Kin (fun b=>w.heap.size<b) w3 (nd1 6 x2) (some ⟨w2.heap.size,0,none⟩) 1):=hid (Ex.Kin.map hb3.size (fun b hb hlt=>⟨hb,hb3.block b hlt⟩) _ (kin1 (c:=c2) 6 KX2.out hzz));replace Z:=hid (box_at (w2:=w3) Z.out qe);replace HB:Hid (Bt g w w3):=hid qh;replace HR:=hid R3;clear b3 R3;clear hb3;have y0:World.cell? _ ⟨_,0,none⟩=some (.int .i64 0):=Z.out.get rfl;have y1:World.cell? _ ⟨_,1,none⟩=some (.string ⟨#[]⟩):=Z.out.get rfl;have y2:World.cell? _ ⟨_,2,none⟩=some (.int .i64 0):=Z.out.get rfl;have y3:World.cell? _ ⟨_,3,none⟩=some (.slice none 0 0):=Z.out.get rfl;have fz:∀i,World.frozen? _ ⟨_,i,none⟩=false:=fun i=>box_frz (i:=i) Z.out;go_wp2_with fail;have HBB:=HB.out;refine bodyPost_ret (v:=.agg (cEx (nd1 6 x2) (some ⟨w2.heap.size,0,none⟩) 1 1)) ?_ rfl (PO.ok (st_end HS) qe ⟨(some ⟨w2.heap.size,0,none⟩),1,1,rfl,?_⟩ (HR.out.low qe))
   · exact results_cell_row rfl _ _ w.heap.size 41 _ (0,0) _ rfl (box_set4 Z.out rfl) Tryz.underlying41 rfl (by kernel_rfl)
   · have KK:=KN.out;exact kin_fin KK qe
 replace HS:=st_not HS i1;replace Z:=hid (box_at (w2:=w1) Z.out qe);replace HB:Hid (Bt g w w1):=hid qh;replace HR:=hid R1;clear b1 R1;clear i1;go_wp2_with fail;have hz2:=Z.out.lt;refine(comparison_any (dn_fF _) _ (HR.out.low qe) HC.out).mono ?_;rintro e w2 h2;rcases h2.cases with⟨x2,u2,v2,r2,rfl,b2,V2,R2⟩|⟨u2,r2,rfl,b2⟩
 rotate_left 1
 · have HBB:=HB.out;go_wp2_with fail;exact⟨rfl,PO.no (HS.out.symm.trans r2) qe⟩
 have HL2:=hid (HS.out.symm.trans r2);replace Z:=hid (box_at (w2:=w2) Z.out qe);replace HB:Hid (Bt g w w2):=hid qh;replace HR:=hid R2;clear b2 R2;clear r2 h2;obtain⟨p2,m2,c2,rfl,k2⟩:=V2;have KX2:Hid (Kin (fun b=>w.heap.size<b) w2 x2 p2 m2):=hid (k2.mono fun b hb hlt=>(by have hb':_<=b:=hb;first|(simp at hb';omega)|omega));clear k2;dsimp only [cEx];have y0:World.cell? _ ⟨_,0,none⟩=some (.int .i64 0):=Z.out.get rfl;have y1:World.cell? _ ⟨_,1,none⟩=some (.string ⟨#[]⟩):=Z.out.get rfl;have y2:World.cell? _ ⟨_,2,none⟩=some (.int .i64 0):=Z.out.get rfl;have y3:World.cell? _ ⟨_,3,none⟩=some (.slice none 0 0):=Z.out.get rfl;have fz:∀i,World.frozen? _ ⟨_,i,none⟩=false:=fun i=>box_frz (i:=i) Z.out;go_wp2_with fail;have HBB:=HB.out;refine bodyPost_ret (v:=.agg (cEx (x2) (p2) m2 c2)) ?_ rfl (PO.ok HL2.out qe ⟨(p2),m2,c2,rfl,?_⟩ (HR.out.low qe))
 · exact results_cell_row rfl _ _ w.heap.size 41 _ (0,0) _ rfl (box_set4 Z.out rfl) Tryz.underlying41 rfl (by kernel_rfl)
 · have KK:=KX2.out;exact kin_fin KK qe
theorem xc_all (L:Lk) (g:Nat):∀n,XC L g n
 | 0=>⟨fun W u _ h=>absurd h (Nat.not_lt_zero _),fun W u _ h=>absurd h (Nat.not_lt_zero _),fun W u _ h=>absurd h (Nat.not_lt_zero _)⟩
 | n+1=>by
  have hX:=xc_all L g n;have hF:∀W u,Rd L g u W->u.length<=n->Calls Tryz.prog 208 #[.pointer (some ⟨g,0,none⟩)] W (PO L g VX (run (fF (n+1)) u) W):=fun W u hR hn=>by rw[fF_succ];exact factor_any hX (fE_neg n) W hR hn
  have hN:∀W u,Rd L g u W->u.length<=n->Calls Tryz.prog 143 #[.pointer (some ⟨g,0,none⟩)] W (PO L g VX (run (fN (n+1)) u) W):=fun W u hR hn=>negation_any hX W hR hn fun W' u' hR' hu'=>hF W' u' hR' (Nat.le_trans hu' hn);have hE:∀W u,Rd L g u W->u.length<=n->Calls Tryz.prog 53 #[.pointer (some ⟨g,0,none⟩)] W (PO L g VX (run (fE (n+1)) u) W):=fun W u hR hn=>by rw[fE_succ];exact expression_any (dn_fN _) W hR fun W' u' hR' hu'=>hN W' u' hR' (Nat.le_trans hu' hn)
  exact⟨fun W u hR h=>hE W u hR (by omega),fun W u hR h=>hN W u hR (by omega),fun W u hR h=>hF W u hR (by omega)⟩
theorem xpr_any (w:World) (hR:Rd L g t w):Calls Tryz.prog 53 #[.pointer (some ⟨g,0,none⟩)] w (PO L g VX (run xpr t) w):=(xc_all L g FU).xe w t hR (by have:=hR.small;unfold FU;omega)
end
end Go.Proofs.YtbgodajefaahdaaGreatDoor.Ps
namespace Go.Proofs.YtbgodajefaahdaaGreatDoor.Ps
open Go.Proofs.YtbgodajefaahdaaGreatDoor.Ps.P (len)
open Go.RowKit
open Go.Proofs.YtbgodajefaahdaaGreatDoor.Lx (Tk)
open Go.Proofs.YtbgodajefaahdaaGreatDoor.Ex (Kin)
open Go.Proofs.YtbgodajefaahdaaGreatDoor.Md (Box)
set_option maxHeartbeats 1000000
def TZ (g:Nat) (k:Int) (t:List Tk) (w:World) (e:Ending) (w':World):Prop:=
 Bt g w w'/\(((hd t).k=k/\e=.returned (tv (hd t)))∨(¬(hd t).k=k/\e=.panicked (mal (hd t).l)))
def PE {α:Type} (g:Nat) (V:Nat->World->α->Value->Prop) (r:R α) (w:World) (e:Ending) (w':World):Prop:=
 Bt g w w'/\match r with
  | .ok x u=>∃v,e=.returned v/\V w.heap.size w' x v
  | .no u=>e=.panicked (mal (hd u).l)
section
variable {α:Type} {g:Nat} {V:Nat->World->α->Value->Prop} {r:R α} {w w':World} {e:Ending} {x:α} {u:List Tk} {v:Value}
theorem PE.ok (hr:r=.ok x u) (hb:Bt g w w') (hV:V w.heap.size w' x v):PE g V r w (.returned v) w':=by subst hr;exact⟨hb,v,rfl,hV⟩
theorem PE.no (hr:r=.no u) (hb:Bt g w w'):PE g V r w (.panicked (mal (hd u).l)) w':=by subst hr;exact⟨hb,rfl⟩
theorem PE.cases (h:PE g V r w e w'):(∃x u v,r=.ok x u/\e=.returned v/\Bt g w w'/\V w.heap.size w' x v)∨(∃u,r=.no u/\e=.panicked (mal (hd u).l)/\Bt g w w'):=by
 obtain⟨hb,h⟩:=h
 cases r with
 | ok x u=>obtain⟨v,h1,h2⟩:=h;exact .inl ⟨x,u,v,rfl,h1,hb,h2⟩
 | no u=>exact .inr ⟨u,rfl,h,hb⟩
end
section
variable {L:Lk} {g:Nat} {t:List Tk}
set_option maxRecDepth 100000 in
theorem take0_any (k:Int) (w:World) (hR:Rd L g t w):Calls Tryz.prog 60 #[.pointer (some ⟨g,0,none⟩),.int .i64 k] w (TZ g k t w):=by
 have C1:=hid (fun W (hW:Below w.heap.size w W)=>token_any W (hR.low (Eqv.of hW)));have C2:=hid (fun W (hW:Below w.heap.size w W)=>wrong_any W (hR.low (Eqv.of hW)));have hg:=hR.blk;have HR:=hid hR;obtain⟨l1,l2,l3⟩:=hR.len;have l4:=hR.few;obtain⟨j,hj⟩:∃j,L.at t=j:=⟨_,rfl⟩
 obtain⟨x,hx⟩:∃x,hd t=x:=⟨_,rfl⟩
 unfold tv at C1;rw[hx] at C1 C2;have HX:=hid hx;have HJ:=hid hj;by_cases h:x.k=k
 · have hb:(x.k != k)=false:=by simp[h]
   have hw:IntKind.i64.wrap ((j:Int)+1)=(j:Int)+1:=by rw[IntKind.wrap_i64];omega
   have HK:=hid h;clear hR l1 l2 l3 l4 hx hj h;go_enter Tryz.func60,Tryz.ntmps60;go_wp2_with fail;refine(C1.out _ bl).mono ?_;rintro e w1 ⟨rfl,hb1⟩;have hB1:Below w.heap.size w w1:=bl;have b4:Box w1 w.heap.size 135 _:=Box.new.on hb1;have b5:Box (w1.alloc (.cells #[.int .i64 x.k,.string x.t,.int .i64 x.n,.int .i64 x.l] 135)) w1.heap.size 135 _:=Box.new;have hs1:=b4.lt;have r1:Rd L g t (w1.alloc (.cells #[.int .i64 x.k,.string x.t,.int .i64 x.n,.int .i64 x.l] 135)):=HR.out.low (Eqv.of bl);have c1:=r1.c1;rw[HJ.out] at c1;have f1:=r1.frz (i:=1);obtain⟨B,hB⟩:∃B,(w1.alloc (.cells #[.int .i64 x.k,.string x.t,.int .i64 x.n,.int .i64 x.l] 135)).setCell ⟨g,1,none⟩ (.int .i64 ((j:Int)+1))=B:=⟨_,rfl⟩
   have e1:Bt g (w1.alloc (.cells #[.int .i64 x.k,.string x.t,.int .i64 x.n,.int .i64 x.l] 135)) B:=by rw[← hB];exact bt_set
   have d5:Box B w1.heap.size 135 _:=box_but b5 e1 (by omega);have d4:Box B w.heap.size 135 _:=box_but (b4.on bl) e1 (by omega);have l0:=d5.get (r:=0) rfl;have l1:=d5.get (r:=1) rfl;have l2:=d5.get (r:=2) rfl;have l3:=d5.get (r:=3) rfl;have p0:=d4.get (r:=0) rfl;have p1:=d4.get (r:=1) rfl;have p2:=d4.get (r:=2) rfl;have p3:=d4.get (r:=3) rfl;have fz:∀i,B.frozen? ⟨w.heap.size,i,none⟩=false:=fun i=>box_frz d4;have D4:=hid d4;have HE:=hid e1;have HB1:=hid hB1;clear e1 r1 d5 d4 b5 b4 hB1 hb1;go_wp2_with fail;have b6:=box_set4 (a:=.int .i64 x.k) (b:=.string x.t) (c:=.int .i64 x.n) (d:=.int .i64 x.l) D4.out rfl;have HBB:=HB1.out;have HEE:=HE.out;refine bodyPost_ret (v:=tv x) ?_ rfl ⟨?_,.inl ⟨by rw[HX.out,HK.out],by rw[HX.out]⟩⟩
   · exact results_cell_row rfl _ _ w.heap.size 135 _ (0,0) _ rfl b6 Tryz.underlying135 rfl (by kernel_rfl)
   · have q:Bt g w w1:=Eqv.of HBB;exact qe
 · have hb:(x.k != k)=true:=by simp[h]
   have HK:=hid h;clear hR l1 l2 l3 l4 hx hj h;go_enter Tryz.func60,Tryz.ntmps60;go_wp2_with fail;refine(C1.out _ bl).mono ?_;rintro e w1 ⟨rfl,hb1⟩;have hB1:Below w.heap.size w w1:=bl;have HB1:=hid hB1;clear hb1 hB1;go_wp2_with fail;refine(C2.out _ (by have HBB:=HB1.out;exact bl)).mono ?_;rintro e w2 ⟨rfl,hb2⟩;go_wp2_with fail;refine⟨rfl,?_,.inr ⟨by rw[HX.out];exact HK.out,by rw[HX.out];rfl⟩⟩;exact Eqv.of (by have HBB:=HB1.out;exact bl)
set_option maxRecDepth 100000 in
theorem endText_any (w:World) (hR:Rd L g t w):Calls Tryz.prog 33 #[.pointer (some ⟨g,0,none⟩)] w (PE g VU (run eot t) w):=by
 have HR:=hid hR;have HN:Hid ((∀h:(hd t).k=0,run eot t=.ok () t.tail)/\(¬(hd t).k=0->run eot t=.no t)):=hid ⟨fun h=>by unfold eot;rw[bd_ok (tk_yes h)];rfl,fun h=>by unfold eot;rw[bd_no (tk_no h)]⟩;clear hR;obtain⟨r,hr⟩:∃r,run eot t=r:=⟨_,rfl⟩
 rw[hr] at HN ⊢;clear hr;go_enter Tryz.func33,Tryz.ntmps33;go_wp2_with fail;refine(take0_any 0 _ HR.out).mono ?_;rintro e w1 ⟨hb,⟨hk,rfl⟩|⟨hk,rfl⟩⟩
 · have HB:=hid hb;have HK:=hid (HN.out.1 hk);clear hb hk;unfold tv;go_wp2_with fail
   (first|go_end0|refine bodyPost_ret (results_none rfl _ _ _) rfl ?_)
   exact PE.ok HK.out HB.out rfl
 · have HB:=hid hb;have HK:=hid (HN.out.2 hk);clear hb hk;go_wp2_with fail;exact⟨rfl,PE.no HK.out HB.out⟩
set_option maxRecDepth 100000 in
theorem onlyExpression_any (w:World) (hR:Rd L g t w):Calls Tryz.prog 24 #[.pointer (some ⟨g,0,none⟩)] w (PE g VX (run oEx t) w):=by
 obtain⟨r,hr⟩:∃r,run oEx t=r:=⟨_,rfl⟩
 rw[hr];have HS:=hid hr;have hg:=hR.blk;have HR:=hid hR;have HB:Hid (Bt g w w):=hid (Eqv.refl _ _);clear hR hr;have Z:=hid (Box.new (w:=w) (t:=41) (c:=#[.int .i64 0,.string ⟨#[]⟩,.int .i64 0,.slice none 0 0]));go_enter Tryz.func24,Tryz.ntmps24;go_wp2_with fail;have hz0:=Z.out.lt;refine(xpr_any _ (HR.out.low qe)).mono ?_;rintro e w1 h1;rcases h1.cases with⟨x1,u1,v1,r1,rfl,b1,V1,R1⟩|⟨u1,r1,rfl,b1⟩
 rotate_left 1
 · have HBB:=HB.out;go_wp2_with fail;exact⟨rfl,PE.no (st_no HS r1) qe⟩
 replace HS:=st_ok HS r1;replace Z:=hid (box_at (w2:=w1) Z.out qe);replace HB:Hid (Bt g w w1):=hid qh;replace HR:=hid R1;clear b1 R1;clear r1 h1;obtain⟨p1,m1,c1,rfl,k1⟩:=V1;have KX1:Hid (Kin (fun b=>w.heap.size<b) w1 x1 p1 m1):=hid (k1.mono fun b hb hlt=>(by have hb':_<=b:=hb;first|(simp at hb';omega)|omega));clear k1;dsimp only [cEx];have Y:=hid (Box.new (w:=w1) (t:=41) (c:=cEx x1 p1 m1 c1));dsimp only [cEx] at Y;have hz1:=Z.out.lt;go_wp2_with fail;refine(endLine_any _ (HR.out.low qe)).mono ?_;rintro e w2 h2;rcases h2.cases with⟨x2,u2,v2,r2,rfl,b2,V2,R2⟩|⟨u2,r2,rfl,b2⟩
 rotate_left 1
 · have HBB:=HB.out;go_wp2_with fail;exact⟨rfl,PE.no (st_no HS r2) qe⟩
 replace HS:=st_ok HS r2;replace Z:=hid (box_at (w2:=w2) Z.out qe);replace Y:=hid (box_at (w2:=w2) Y.out qe);replace KX1:=hid (kin_go (w2:=w2) KX1.out qe);replace HB:Hid (Bt g w w2):=hid qh;replace HR:=hid R2;clear b2 R2;clear r2 h2;obtain rfl:=V2;go_wp2_with fail;refine(endText_any _ (HR.out.low qe)).mono ?_;rintro e w3 h3;rcases h3.cases with⟨x3,u3,v3,r3,rfl,b3,V3⟩|⟨u3,r3,rfl,b3⟩
 rotate_left 1
 · have HBB:=HB.out;go_wp2_with fail;exact⟨rfl,PE.no (st_no HS r3) qe⟩
 replace HS:=st_ok HS r3;obtain rfl:=V3;replace Z:=hid (box_at (w2:=w3) Z.out qe);replace Y:=hid (box_at (w2:=w3) Y.out qe);replace KX1:=hid (kin_go (w2:=w3) KX1.out qe);replace HB:Hid (Bt g w w3):=hid qh;clear b3 r3 h3;have l0:World.cell? _ ⟨_,0,none⟩=some (.int .i64 x1.o):=Y.out.get rfl;have l1:World.cell? _ ⟨_,1,none⟩=some (.string x1.s):=Y.out.get rfl;have l2:World.cell? _ ⟨_,2,none⟩=some (.int .i64 x1.n):=Y.out.get rfl;have l3:World.cell? _ ⟨_,3,none⟩=some (.slice p1 m1 c1):=Y.out.get rfl;have y0:World.cell? _ ⟨_,0,none⟩=some (.int .i64 0):=Z.out.get rfl;have y1:World.cell? _ ⟨_,1,none⟩=some (.string ⟨#[]⟩):=Z.out.get rfl;have y2:World.cell? _ ⟨_,2,none⟩=some (.int .i64 0):=Z.out.get rfl;have y3:World.cell? _ ⟨_,3,none⟩=some (.slice none 0 0):=Z.out.get rfl;have fz:∀i,World.frozen? _ ⟨_,i,none⟩=false:=fun i=>box_frz (i:=i) Z.out;go_wp2_with fail;have HBB:=HB.out;refine bodyPost_ret (v:=.agg (cEx x1 p1 m1 c1)) ?_ rfl (PE.ok (st_end HS) qe ⟨p1,m1,c1,rfl,?_⟩)
 · exact results_cell_row rfl _ _ w.heap.size 41 _ (0,0) _ rfl (box_set4 Z.out rfl) Tryz.underlying41 rfl (by kernel_rfl)
 · have KK:=KX1.out;exact kin_fin KK qe
end
end Go.Proofs.YtbgodajefaahdaaGreatDoor.Ps
namespace Go.Proofs.YtbgodajefaahdaaGreatDoor.Ps
open Go.RowKit
section
variable {P:Program} {fn:Func} {p q u x:Tmp} {ty:TypeId}
theorem res_row_tmp (h:fn.results=#[.cell p ty,.tmp u]) (tmps:Array Value) (w:World) (g:Nat) (t:TypeId) (cs:Array Value) (fr:Nat×Nat) (d:TypeDesc) (hp:tmps.getD p undef=.pointer (some ⟨g,0,none⟩)) (hg:w.heap[g]?=some (.cells cs t fr)) (hu:P.underlying ty=some d) (hd:(match d with|.struct _|.array _ _=>true|_=>false)=true) (hi:(P.info? ty).map (·.size)=some cs.size) {v1:Value} (e1:tmps.getD u undef=v1):(results fn tmps).run P w=.ok (.tuple #[.agg cs,v1]) w:=by
 have hp':tmps[p]?.getD undef=.pointer (some ⟨g,0,none⟩):=by simpa using hp
 subst e1;simp[results,h,hp',asAddr,run_loadVar_row w g t ty cs fr d hg hu hd hi]
theorem res_row_tmp2 (h:fn.results=#[.cell p ty,.tmp u,.tmp x]) (tmps:Array Value) (w:World) (g:Nat) (t:TypeId) (cs:Array Value) (fr:Nat×Nat) (d:TypeDesc) (hp:tmps.getD p undef=.pointer (some ⟨g,0,none⟩)) (hg:w.heap[g]?=some (.cells cs t fr)) (hu:P.underlying ty=some d) (hd:(match d with|.struct _|.array _ _=>true|_=>false)=true) (hi:(P.info? ty).map (·.size)=some cs.size) {v1 v2:Value} (e1:tmps.getD u undef=v1) (e2:tmps.getD x undef=v2):(results fn tmps).run P w=.ok (.tuple #[.agg cs,v1,v2]) w:=by
 have hp':tmps[p]?.getD undef=.pointer (some ⟨g,0,none⟩):=by simpa using hp
 subst e1 e2;simp[results,h,hp',asAddr,run_loadVar_row w g t ty cs fr d hg hu hd hi]
theorem res_row_cell_tmp (h:fn.results=#[.cell p ty,.cell q 3,.tmp u]) (tmps:Array Value) (w:World) (g k:Nat) (t:TypeId) (cs:Array Value) (fr:Nat×Nat) (d:TypeDesc) (v:Value) (hp:tmps.getD p undef=.pointer (some ⟨g,0,none⟩)) (hq:tmps.getD q undef=.pointer (some ⟨k,0,none⟩)) (hg:w.heap[g]?=some (.cells cs t fr)) (hk:(loadVar 3 ⟨k,0,none⟩).run P w=.ok v w) (hu:P.underlying ty=some d) (hd:(match d with|.struct _|.array _ _=>true|_=>false)=true) (hi:(P.info? ty).map (·.size)=some cs.size):(results fn tmps).run P w=.ok (.tuple #[.agg cs,v,tmps.getD u undef]) w:=by
 have hp':tmps[p]?.getD undef=.pointer (some ⟨g,0,none⟩):=by simpa using hp
 have hq':tmps[q]?.getD undef=.pointer (some ⟨k,0,none⟩):=by simpa using hq
 simp[results,h,hp',hq',asAddr,run_loadVar_row w g t ty cs fr d hg hu hd hi,hk]
end
theorem load_int {w:World} {k:Nat} {v:Value} (h:w.cell? ⟨k,0,none⟩=some v):(loadVar 3 ⟨k,0,none⟩).run Tryz.prog w=.ok v w:=by
 have hu:(underlying 3).run Tryz.prog w=.ok (.int .i64) w:=run_underlying (by kernel_rfl) w;have ha:(isAgg 3).run Tryz.prog w=.ok false w:=by
  unfold isAgg;rw[Sem.run_bind,hu];rfl
 simp[loadVar,Sem.run_bind,ha,go_sem,h]
end Go.Proofs.YtbgodajefaahdaaGreatDoor.Ps
namespace Go.Proofs.YtbgodajefaahdaaGreatDoor.Ps
open Go.RowKit
open Go.Proofs.YtbgodajefaahdaaGreatDoor.Lx (Tk Toks)
open Go.Proofs.YtbgodajefaahdaaGreatDoor.Ex (Ex Kin)
open Go.Proofs.YtbgodajefaahdaaGreatDoor.Md (Box)
set_option maxHeartbeats 600000
set_option maxRecDepth 100000 in
theorem catchX_pan (p:Addr) (x n:Int) (older:List PanicEntry) (w:World) (hc:w.cell? p=some (.int .i64 x)) (hz:w.frozen? p=false):CallsD Tryz.prog 92 #[.pointer (some p)] (.panicking ({ v:=.iface 137 (.agg #[.int .i64 n]),recovered:=false }::older)) w fun e u' w'=>e=.returned (.tuple #[])/\u'=.panicking ({ v:=.iface 137 (.agg #[.int .i64 n]),recovered:=true }::older)/\w'=(w.alloc (.cells #[.int .i64 n] 137)).setCell p (.int .i64 n):=by
 refine callsD_of_wpS Tryz.func92 rfl fun c₀ cs hu=>?_;have hta:(Instr.typeAssert (Value.iface 137 (Value.agg #[Value.int IntKind.i64 n])) 20 137 true).run Tryz.prog w=.ok (.tuple #[.agg #[.int .i64 n],.bool true]) w:=by kernel_rfl
 have hlt:p.block<w.heap.size:=by
  unfold World.cell? at hc
  split at hc
  · rename_i h;exact(Array.getElem?_eq_some_iff.1 h).1
  all_goals cases hc
 have hbb:(w.alloc (.cells #[.int .i64 n] 137)).heap[p.block]?=w.heap[p.block]?:=by
  show(w.heap.push _)[p.block]?=_
  rw[Array.getElem?_push,if_neg (by omega)]
 have h1:(w.alloc (.cells #[.int .i64 n] 137)).cell? ⟨w.heap.size,0,none⟩=some (.int .i64 n):=by rw[World.cell?_alloc_mark];rfl
 have h2:(w.alloc (.cells #[.int .i64 n] 137)).cell? p=some (.int .i64 x):=(World.cell?_of_block hbb).trans hc;have h3:(w.alloc (.cells #[.int .i64 n] 137)).frozen? p=false:=by unfold World.frozen? at hz ⊢; rw[hbb];exact hz
 apply wpS_seq
 apply wpS_region
 simp[wpOpsS,go_sem,recoverD,hu,Tryz.ntmps92,Exit.thenS,hta]
 apply wpS_seq
 apply wpS_region
 simp[wpOpsS,go_sem,Exit.thenS]
 refine wpS_cond (t:=true) (by simp[Act.eval,Array.replicate]) ?_;simp only[if_true]
 apply wpS_region
 simp[wpOpsS,go_sem,h1,h2,h3,bodyPostS,results,Tryz.results92]
set_option maxRecDepth 100000 in
theorem catchX_idle (p:Addr) (w:World):CallsD Tryz.prog 92 #[.pointer (some p)] .returning w fun e u' w'=>e=.returned (.tuple #[])/\u'=.returning/\w'=w.alloc (.cells #[.int .i64 0] 137):=by
 refine callsD_of_wpS Tryz.func92 rfl fun c₀ cs hu=>?_;have hta:(Instr.typeAssert Value.nilIface 20 137 true).run Tryz.prog w=.ok (.tuple #[.agg #[.int .i64 0],.bool false]) w:=by kernel_rfl
 apply wpS_seq
 apply wpS_region
 simp[wpOpsS,go_sem,recoverD,hu,Tryz.ntmps92,Exit.thenS,hta]
 apply wpS_seq
 apply wpS_region
 simp[wpOpsS,go_sem,Exit.thenS]
 refine wpS_cond (t:=false) (by simp[Act.eval,Array.replicate]) ?_;simp only[Bool.false_eq_true,if_false];refine wpS_of_wp (wp_skip ?_);cases c₀
 simp_all [bodyPostS,results,Tryz.results92]
def FO {α:Type} (V:Nat->World->α->Value->Prop) (z:Value) (r:R α) (w:World) (e:Ending) (w':World):Prop:=
 Below w.heap.size w w'/\match r with
  | .ok x u=>∃v,e=.returned (.tuple #[v,.int .i64 0,.int .i64 0])/\V w.heap.size w' x v
  | .no u=>e=.returned (.tuple #[z,.int .i64 (hd u).l,.int .i64 9])
theorem eqv_below {a w:World} (h:Eqv (fun k=>k<a.heap.size) a w):Below a.heap.size a w:=⟨h.os,h.tape,h.output,h.size,fun k hk=>h.block k hk hk⟩
section
variable {α:Type} {V:Nat->World->α->Value->Prop} {z v:Value} {r:R α} {w w':World} {e:Ending} {x:α} {u:List Tk}
theorem FO.ok (hr:r=.ok x u) (hb:Below w.heap.size w w') (hV:V w.heap.size w' x v):FO V z r w (.returned (.tuple #[v,.int .i64 0,.int .i64 0])) w':=by subst hr;exact⟨hb,v,rfl,hV⟩
theorem FO.no (hr:r=.no u) (hb:Below w.heap.size w w'):FO V z r w (.returned (.tuple #[z,.int .i64 (hd u).l,.int .i64 9])) w':=by subst hr;exact⟨hb,rfl⟩
theorem FO.cases (h:FO V z r w e w'):Below w.heap.size w w'/\((∃x u v,r=.ok x u/\e=.returned (.tuple #[v,.int .i64 0,.int .i64 0])/\V w.heap.size w' x v)∨(∃u,r=.no u/\e=.returned (.tuple #[z,.int .i64 (hd u).l,.int .i64 9]))):=by
 obtain⟨hb,h⟩:=h;refine⟨hb,?_⟩
 cases r with
 | ok x u=>obtain⟨v,h1,h2⟩:=h;exact .inl ⟨x,u,v,rfl,h1,h2⟩
 | no u=>exact .inr ⟨u,rfl,h⟩
end
theorem rd_new {L:Lk} {w W:World} {g:Nat} (hW:W=w.alloc (.cells #[.slice (some ⟨L.b,L.o,none⟩) L.m L.c,.int .i64 0] 140)) (hg:g=w.heap.size) (hb:L.b<w.heap.size) (ht:Toks w (some ⟨L.b,L.o,none⟩) L.m L.l) (hgd:Gd L.l) (hfew:L.l.length<=30000):Rd L g L.l W:=by
 subst hW hg;have e:L.at L.l=0:=by unfold Lk.at;omega
 refine⟨hb,?_,by rw[e];rfl,ht.alloc,hgd,hfew⟩;unfold rdC;rw[e];exact Box.new
set_option maxRecDepth 100000 in
theorem followX_any (f:FuncId) (m:P Ex) (L:Lk) (w:World) (hf:∀(a:Array Value) (W:World),(callFunc f a).run Tryz.prog W=.ok (.enter f a) W) (ht:Toks w (some ⟨L.b,L.o,none⟩) L.m L.l) (hgd:Gd L.l) (hfew:L.l.length<=30000) (hC:∀g W,Rd L g L.l W->Calls Tryz.prog f #[.pointer (some ⟨g,0,none⟩)] W (PE g VX (run m L.l) W)):Calls Tryz.prog 52 #[.func (.func f) #[] #[],.slice (some ⟨L.b,L.o,none⟩) L.m L.c] w (FO VX (.agg #[.int .i64 0,.string ⟨#[]⟩,.int .i64 0,.slice none 0 0]) (run m L.l) w):=by
 have HC:=hid hC;have HT:=hid ht;have HG:=hid hgd;have HF:=hid hfew;obtain⟨r,hr⟩:∃r,run m L.l=r:=⟨_,rfl⟩
 rw[hr] at HC ⊢;clear hC ht hgd hfew;have hmf:∀(fn:Fn) (first cap:Array Value) (w:World),(Instr.makeFunc fn first cap).run Tryz.prog w=.ok (.func fn first cap) w:=fun _ _ _ _=>rfl;go_enter_defers Tryz.func52,Tryz.ntmps52
 go_wp2_with fail;have hlb:L.b<w.heap.size:=by
  obtain⟨e1,e2,e3|⟨b',o',e,hlt,hc⟩⟩:=HT.out
  · have h1:=HG.out.ne;omega
  · cases e;exact hlt
 have z0:Box (w.alloc (.cells #[.int .i64 0,.string ⟨#[]⟩,.int .i64 0,.slice none 0 0] 41)) w.heap.size 41 #[.int .i64 0,.string ⟨#[]⟩,.int .i64 0,.slice none 0 0]:=Box.new;have n0:Box ((w.alloc (.cells #[.int .i64 0,.string ⟨#[]⟩,.int .i64 0,.slice none 0 0] 41)).alloc (.cells #[.int .i64 0] 3)) (w.heap.size+1) 3 #[.int .i64 0]:=by
  have h:=Box.new (w:=w.alloc (.cells #[.int .i64 0,.string ⟨#[]⟩,.int .i64 0,.slice none 0 0] 41)) (t:=3) (c:=#[.int .i64 0]);rwa [show(w.alloc (.cells #[.int .i64 0,.string ⟨#[]⟩,.int .i64 0,.slice none 0 0] 41)).heap.size=w.heap.size+1 by simp] at h
 have Z:=hid z0;have N:=hid n0;have hzl:=z0.lt;have hnl:=n0.lt;clear z0 n0;refine(HC.out (w.heap.size+1+1) _ (rd_new rfl (by simp) (by simp;omega) (HT.out.alloc.alloc) HG.out HF.out)).mono ?_;rintro e w1 h1;rcases h1.cases with⟨x1,u1,v1,r1,rfl,b1,V1⟩|⟨u1,r1,rfl,b1⟩
 · have Z1:=hid (box_at (w2:=w1) Z.out qe);have N1:=hid (box_at (w2:=w1) N.out qe);have B1:Hid (Eqv (fun k=>k<w.heap.size) w w1):=hid qe;have HK:=hid r1;obtain⟨p1,m1,c1,rfl,k1⟩:=V1;have K1:Hid (Kin (fun b=>w.heap.size+1<b) w1 x1 p1 m1):=hid (k1.mono fun b hb hlt=>by
    have hb':_<=b:=hb;simp at hb'
    omega)
   dsimp only [cEx];clear b1 h1 r1 k1 Z N;have y0:World.cell? _ ⟨_,0,none⟩=some (.int .i64 0):=Z1.out.get rfl;have y1:World.cell? _ ⟨_,1,none⟩=some (.string ⟨#[]⟩):=Z1.out.get rfl;have y2:World.cell? _ ⟨_,2,none⟩=some (.int .i64 0):=Z1.out.get rfl;have y3:World.cell? _ ⟨_,3,none⟩=some (.slice none 0 0):=Z1.out.get rfl;have fz:∀i,World.frozen? _ ⟨_,i,none⟩=false:=fun i=>box_frz (i:=i) Z1.out;have q0:World.cell? _ ⟨_,0,none⟩=some (.int .i64 0):=N1.out.get rfl;have qz:∀i,World.frozen? _ ⟨_,i,none⟩=false:=fun i=>box_frz (i:=i) N1.out;go_wp2_with fail;refine leaves_cons (f:=92) (args:=#[.pointer (some ⟨w.heap.size+1,0,none⟩)]) (by simp) (by simp[go_sem]) ?_;refine(catchX_idle _ _).mono ?_;rintro e u' w'' ⟨rfl,rfl,rfl⟩;have BB:=B1.out;refine⟨_,res_row_cell_tmp rfl _ _ w.heap.size (w.heap.size+1) 41 (cEx x1 p1 m1 c1) (0,0) _ (.int .i64 0) rfl rfl ?_ (load_int ?_) Tryz.underlying41 rfl (by kernel_rfl),?_⟩
   · exact box_at (box_set4 Z1.out rfl) qe
   · have N4:=box_set (i:=0) (v:=.int .i64 0) (box_at (w2:=((((w1.setCell ⟨w.heap.size,0,none⟩ (.int .i64 x1.o)).setCell ⟨w.heap.size,1,none⟩ (.string x1.s)).setCell ⟨w.heap.size,2,none⟩ (.int .i64 x1.n)).setCell ⟨w.heap.size,3,none⟩ (.slice p1 m1 c1))) N1.out qe);exact(box_at N4 qe).get (r:=0) rfl
   · have q:∀W,Eqv (fun b=>w.heap.size+1<b) w1 W->Kin (fun b=>w.heap.size<=b) W x1 p1 m1:=fun W q=>Ex.Kin.map q.size (fun b hb hlt=>⟨by show w.heap.size<=b;have hb':w.heap.size+1<b:=hb;omega,q.block b hlt hb⟩) _ K1.out;exact FO.ok HK.out (eqv_below qe) ⟨p1,m1,c1,rfl,q _ qe⟩
 · have Z1:=hid (box_at (w2:=w1) Z.out qe);have N1:=hid (box_at (w2:=w1) N.out qe);have B1:Hid (Eqv (fun k=>k<w.heap.size) w w1):=hid qe;have HK:=hid r1;clear b1 h1 r1 Z N;go_wp2_with fail;refine leaves_cons (f:=92) (args:=#[.pointer (some ⟨w.heap.size+1,0,none⟩)]) (by simp) (by simp[go_sem]) ?_;refine(catchX_pan _ 0 (hd u1).l [] _ (N1.out.get rfl) (box_frz N1.out)).mono ?_;rintro e u' w'' ⟨rfl,rfl,rfl⟩;refine⟨_,res_row_cell_tmp rfl _ _ w.heap.size (w.heap.size+1) 41 #[.int .i64 0,.string ⟨#[]⟩,.int .i64 0,.slice none 0 0] (0,0) _ (.int .i64 (hd u1).l) rfl rfl ?_ (load_int ?_) Tryz.underlying41 rfl (by kernel_rfl),?_⟩
   · exact box_at Z1.out qe
   · refine(box_set (i:=0) (v:=.int .i64 (hd u1).l) (box_at N1.out ?_)).get (r:=0) rfl;exact qe
   · exact FO.no HK.out (eqv_below (by have BB:=B1.out;exact qe))
end Go.Proofs.YtbgodajefaahdaaGreatDoor.Ps
namespace Go.Proofs.YtbgodajefaahdaaGreatDoor.Ps
open Go.Proofs.YtbgodajefaahdaaGreatDoor.Ps.P (rt bd exp)
open Go.RowKit
open Go.Proofs.YtbgodajefaahdaaGreatDoor.Lx (Tk mt)
open Go.Proofs.YtbgodajefaahdaaGreatDoor.Ex (Ex Kin)
open Go.Proofs.YtbgodajefaahdaaGreatDoor.Sm (St Lin Sin Pl cs sin_iff zE zD Own0)
open Go.Proofs.YtbgodajefaahdaaGreatDoor.Md (Big Box)
set_option maxHeartbeats 1000000
theorem st_big:Big 60 21:=⟨⟨_,Tryz.underlying60,rfl⟩,by kernel_rfl⟩
theorem wpList_put {ops:Array Oper} {rest:List Oper} {o:Oper} {a:Act} {w W:World} {Q:Exit->Act->World->Prop} (hgd:o.guard=none) (ty:TypeId) (x y:Operand) (ho:o.op=.store ty x y) (g:Nat) (cells:Array Value) (hx:a.eval x=.pointer (some ⟨g,0,none⟩)) (hy:a.eval y=.agg cells) (hP:Put ty g cells w W) (h:wpList Tryz.prog ops Q rest (a.put o.dst undef) W):wpList Tryz.prog ops Q (o::rest) a w:=
 wpList_plain hgd fun _ hK=>by
  have h2:=hP.adr;unfold Oper.wp execOp;simp only[ho,hx,hy,h2,Sem.run_bind,Sem.run_pure,Result.andThen_ok];exact hK _ _ h
def VSt (lo:Nat) (w:World) (x:St) (v:Value):Prop:=∃P,v=.agg (cs x P)/\Sin (fun b=>lo<=b) w x P
def P0:Pl:=⟨none,0,0,none,0,0,none,0,0,none,0,0,none,0,0,none,0,0,none,0,0⟩
def PE0 (p:Option Addr) (m c:Nat):Pl:=⟨p,m,c,none,0,0,none,0,0,none,0,0,none,0,0,none,0,0,none,0,0⟩
section
variable {G:Nat->Prop} {w:World}
theorem own0_e {e:Ex} {p:Option Addr} {m c:Nat} (h:Kin G w e p m):Own0 G w e zE [] zD (PE0 p m c):=⟨h,Ex.Kin.zero,Ex.Kin.zero,ints_nil,ints_nil⟩
theorem sin_e {o:Int} {nm f:ByteArray} {e:Ex} {b:Bool} {p:Option Addr} {m c:Nat} (h:Kin G w e p m):Sin G w (.mk o nm f e zE [] zD b [] []) (PE0 p m c):=sin_iff.2 ⟨own0_e h,Sm.Lin.nil,Sm.Lin.nil⟩
end
section
variable {L:Lk} {g:Nat} {t:List Tk}
theorem zCN_0 {p:Prop} (h:p:=by
 have HBB:=HB.out;go_wp2_with fail;exact⟨rfl,PO.no (st_no HS (by assumption)) qe⟩
 ):p:=h
theorem zCN_1 {p:Prop} (h:p:=by have hb':_<=b:=hb;first|(simp at hb';omega)|omega):p:=h
set_option maxRecDepth 100000 in
theorem change_any (o:Int) (w:World) (hR:Rd L g t w):Calls Tryz.prog 133 #[.pointer (some ⟨g,0,none⟩),.int .i64 o] w (PO L g VSt (run (chg o) t) w):=by
 obtain⟨r,hr⟩:∃r,run (chg o) t=r:=⟨_,rfl⟩
 rw[hr];have HS:=hid hr;have hg:=hR.blk;have HR:=hid hR;have HB:Hid (Bt g w w):=hid (Eqv.refl _ _);clear hR hr;have Z:=hid (Box.new (w:=w) (t:=60) (c:=#[.int .i64 0,.string ⟨#[]⟩,.string ⟨#[]⟩,.int .i64 0,.string ⟨#[]⟩,.int .i64 0,.slice none 0 0,.int .i64 0,.string ⟨#[]⟩,.int .i64 0,.slice none 0 0,.slice none 0 0,.int .i64 0,.int .i64 0,.int .i64 0,.int .i64 0,.slice none 0 0,.slice none 0 0,.bool false,.slice none 0 0,.slice none 0 0]));go_enter Tryz.func133,Tryz.ntmps133;go_wp2_with fail;refine(name_any _ (HR.out.low qe)).mono ?_;rintro e w1 h1;rcases h1.cases with⟨x1,u1,v1,r1,rfl,b1,V1,R1⟩|⟨u1,r1,rfl,b1⟩
 rotate_left 1
 · exact zCN_0
 replace HS:=st_ok HS r1;replace Z:=hid (box_at (w2:=w1) Z.out qe);replace HB:Hid (Bt g w w1):=hid qh;replace HR:=hid R1;clear b1 R1;clear r1 h1;obtain rfl:=V1;have hz1:=Z.out.lt;go_wp2_with fail;refine(xpr_any _ (HR.out.low qe)).mono ?_;rintro e w2 h2;rcases h2.cases with⟨x2,u2,v2,r2,rfl,b2,V2,R2⟩|⟨u2,r2,rfl,b2⟩
 rotate_left 1
 · exact zCN_0
 replace HS:=st_ok HS r2;replace Z:=hid (box_at (w2:=w2) Z.out qe);replace HB:Hid (Bt g w w2):=hid qh;replace HR:=hid R2;clear b2 R2;clear r2 h2;obtain⟨p2,m2,c2,rfl,k2⟩:=V2;have KX2:Hid (Kin (fun b=>w.heap.size<b) w2 x2 p2 m2):=hid (k2.mono fun b hb hlt=>zCN_1);clear k2;dsimp only [cEx];obtain⟨W,hP⟩:=put_box (c:=#[.int .i64 o,.string x1,.string ⟨#[]⟩,.int .i64 x2.o,.string x2.s,.int .i64 x2.n,.slice p2 m2 c2,.int .i64 0,.string ⟨#[]⟩,.int .i64 0,.slice none 0 0,.slice none 0 0,.int .i64 0,.int .i64 0,.int .i64 0,.int .i64 0,.slice none 0 0,.slice none 0 0,.bool false,.slice none 0 0,.slice none 0 0]) Z.out st_big (by simp[Value.oneCell']) rfl;have vr4:=hP.bt;have vr5:=hid hP.box;have vr6:=hP.size;go_wp2_with (refine wpList_put rfl 60 _ _ rfl w.heap.size _ rfl rfl hP ?_)
 have HBB:=HB.out;refine bodyPost_ret (v:=.agg (cs (stm o x1 mt x2) (PE0 p2 m2 c2))) ?_ rfl (PO.ok (st_end HS) qe ⟨(PE0 p2 m2 c2),rfl,sin_e (kin_fin KX2.out qe)⟩ (HR.out.low qe));exact results_cell_row rfl _ _ w.heap.size 60 _ (0,0) _ rfl vr5.out Tryz.underlying60 rfl (by kernel_rfl)
set_option maxRecDepth 100000 in
theorem set_any (w:World) (hR:Rd L g t w):Calls Tryz.prog 128 #[.pointer (some ⟨g,0,none⟩)] w (PO L g VSt (run (bd nam fun s=>bd (exp zEq) fun _=>bd xpr fun e=>rt (stm 1 s mt e)) t) w):=by
 obtain⟨r,hr⟩:∃r,run (bd nam fun s=>bd (exp zEq) fun _=>bd xpr fun e=>rt (stm 1 s mt e)) t=r:=⟨_,rfl⟩
 rw[hr];have HS:=hid hr;have hg:=hR.blk;have HR:=hid hR;have HB:Hid (Bt g w w):=hid (Eqv.refl _ _);clear hR hr;have Z:=hid (Box.new (w:=w) (t:=60) (c:=#[.int .i64 0,.string ⟨#[]⟩,.string ⟨#[]⟩,.int .i64 0,.string ⟨#[]⟩,.int .i64 0,.slice none 0 0,.int .i64 0,.string ⟨#[]⟩,.int .i64 0,.slice none 0 0,.slice none 0 0,.int .i64 0,.int .i64 0,.int .i64 0,.int .i64 0,.slice none 0 0,.slice none 0 0,.bool false,.slice none 0 0,.slice none 0 0]));go_enter Tryz.func128,Tryz.ntmps128;go_wp2_with fail;refine(name_any _ (HR.out.low qe)).mono ?_;rintro e w1 h1;rcases h1.cases with⟨x1,u1,v1,r1,rfl,b1,V1,R1⟩|⟨u1,r1,rfl,b1⟩
 rotate_left 1
 · exact zCN_0
 replace HS:=st_ok HS r1;replace Z:=hid (box_at (w2:=w1) Z.out qe);replace HB:Hid (Bt g w w1):=hid qh;replace HR:=hid R1;clear b1 R1;clear r1 h1;obtain rfl:=V1;have hz1:=Z.out.lt;go_wp2_with fail;refine(expect_any _ _ (HR.out.low qe) (by decide)).mono ?_;rintro e w3 h3;rcases h3.cases with⟨x3,u3,v3,r3,rfl,b3,V3,R3⟩|⟨u3,r3,rfl,b3⟩
 rotate_left 1
 · exact zCN_0
 replace HS:=st_ok HS r3;replace Z:=hid (box_at (w2:=w3) Z.out qe);replace HB:Hid (Bt g w w3):=hid qh;replace HR:=hid R3;clear b3 R3;clear r3 h3;obtain rfl:=V3;have hz3:=Z.out.lt;go_wp2_with fail;refine(xpr_any _ (HR.out.low qe)).mono ?_;rintro e w2 h2;rcases h2.cases with⟨x2,u2,v2,r2,rfl,b2,V2,R2⟩|⟨u2,r2,rfl,b2⟩
 rotate_left 1
 · exact zCN_0
 replace HS:=st_ok HS r2;replace Z:=hid (box_at (w2:=w2) Z.out qe);replace HB:Hid (Bt g w w2):=hid qh;replace HR:=hid R2;clear b2 R2;clear r2 h2;obtain⟨p2,m2,c2,rfl,k2⟩:=V2;have KX2:Hid (Kin (fun b=>w.heap.size<b) w2 x2 p2 m2):=hid (k2.mono fun b hb hlt=>zCN_1);clear k2;dsimp only [cEx];obtain⟨W,hP⟩:=put_box (c:=#[.int .i64 1,.string x1,.string ⟨#[]⟩,.int .i64 x2.o,.string x2.s,.int .i64 x2.n,.slice p2 m2 c2,.int .i64 0,.string ⟨#[]⟩,.int .i64 0,.slice none 0 0,.slice none 0 0,.int .i64 0,.int .i64 0,.int .i64 0,.int .i64 0,.slice none 0 0,.slice none 0 0,.bool false,.slice none 0 0,.slice none 0 0]) Z.out st_big (by simp[Value.oneCell']) rfl;have vr4:=hP.bt;have vr5:=hid hP.box;have vr6:=hP.size;go_wp2_with (refine wpList_put rfl 60 _ _ rfl w.heap.size _ rfl rfl hP ?_)
 have HBB:=HB.out;refine bodyPost_ret (v:=.agg (cs (stm 1 x1 mt x2) (PE0 p2 m2 c2))) ?_ rfl (PO.ok (st_end HS) qe ⟨(PE0 p2 m2 c2),rfl,sin_e (kin_fin KX2.out qe)⟩ (HR.out.low qe));exact results_cell_row rfl _ _ w.heap.size 60 _ (0,0) _ rfl vr5.out Tryz.underlying60 rfl (by kernel_rfl)
set_option maxRecDepth 100000 in
theorem condition_any (w:World) (hR:Rd L g t w):Calls Tryz.prog 169 #[.pointer (some ⟨g,0,none⟩)] w (PO L g VX (run cnd t) w):=by
 obtain⟨r,hr⟩:∃r,run cnd t=r:=⟨_,rfl⟩
 rw[hr];have HS:=hid hr;have hg:=hR.blk;have HR:=hid hR;have HB:Hid (Bt g w w):=hid (Eqv.refl _ _);clear hR hr;have Z:=hid (Box.new (w:=w) (t:=41) (c:=#[.int .i64 0,.string ⟨#[]⟩,.int .i64 0,.slice none 0 0]));go_enter Tryz.func169,Tryz.ntmps169;go_wp2_with fail;have hz0:=Z.out.lt;refine(xpr_any _ (HR.out.low qe)).mono ?_;rintro e w1 h1;rcases h1.cases with⟨x1,u1,v1,r1,rfl,b1,V1,R1⟩|⟨u1,r1,rfl,b1⟩
 rotate_left 1
 · exact zCN_0
 replace HS:=st_ok HS r1;replace Z:=hid (box_at (w2:=w1) Z.out qe);replace HB:Hid (Bt g w w1):=hid qh;replace HR:=hid R1;clear b1 R1;clear r1 h1;obtain⟨p1,m1,c1,rfl,k1⟩:=V1;have KX1:Hid (Kin (fun b=>w.heap.size<b) w1 x1 p1 m1):=hid (k1.mono fun b hb hlt=>zCN_1);clear k1;dsimp only [cEx];have Y:=hid (Box.new (w:=w1) (t:=41) (c:=cEx x1 p1 m1 c1));dsimp only [cEx] at Y;have hz1:=Z.out.lt;go_wp2_with fail;refine(endLine_any _ (HR.out.low qe)).mono ?_;rintro e w2 h2;rcases h2.cases with⟨x2,u2,v2,r2,rfl,b2,V2,R2⟩|⟨u2,r2,rfl,b2⟩
 rotate_left 1
 · exact zCN_0
 replace HS:=st_ok HS r2;replace Z:=hid (box_at (w2:=w2) Z.out qe);replace Y:=hid (box_at (w2:=w2) Y.out qe);replace KX1:=hid (kin_go (w2:=w2) KX1.out qe);replace HB:Hid (Bt g w w2):=hid qh;replace HR:=hid R2;clear b2 R2;clear r2 h2;obtain rfl:=V2;have l0:World.cell? _ ⟨_,0,none⟩=some (.int .i64 x1.o):=Y.out.get rfl;have l1:World.cell? _ ⟨_,1,none⟩=some (.string x1.s):=Y.out.get rfl;have l2:World.cell? _ ⟨_,2,none⟩=some (.int .i64 x1.n):=Y.out.get rfl;have l3:World.cell? _ ⟨_,3,none⟩=some (.slice p1 m1 c1):=Y.out.get rfl;have y0:World.cell? _ ⟨_,0,none⟩=some (.int .i64 0):=Z.out.get rfl;have y1:World.cell? _ ⟨_,1,none⟩=some (.string ⟨#[]⟩):=Z.out.get rfl;have y2:World.cell? _ ⟨_,2,none⟩=some (.int .i64 0):=Z.out.get rfl;have y3:World.cell? _ ⟨_,3,none⟩=some (.slice none 0 0):=Z.out.get rfl;have fz:∀i,World.frozen? _ ⟨_,i,none⟩=false:=fun i=>box_frz (i:=i) Z.out;go_wp2_with fail;have HBB:=HB.out;refine bodyPost_ret (v:=.agg (cEx (x1) (p1) m1 c1)) ?_ rfl (PO.ok (st_end HS) qe ⟨(p1),m1,c1,rfl,?_⟩ (HR.out.low qe))
 · exact results_cell_row rfl _ _ w.heap.size 41 _ (0,0) _ rfl (box_set4 Z.out rfl) Tryz.underlying41 rfl (by kernel_rfl)
 · have KK:=KX1.out;exact kin_fin KK qe
end
end Go.Proofs.YtbgodajefaahdaaGreatDoor.Ps
namespace Go.Proofs.YtbgodajefaahdaaGreatDoor.Ps
open Go.RowKit
open Go.Proofs.YtbgodajefaahdaaGreatDoor.Lx (Tk)
open Go.Proofs.YtbgodajefaahdaaGreatDoor.Ex (Ex Kin)
open Go.Proofs.YtbgodajefaahdaaGreatDoor.Sm (Lin Sin Pl cs sin_iff zE zD nE)
open Go.Proofs.YtbgodajefaahdaaGreatDoor.Md (Box)
set_option maxHeartbeats 1000000
def cB (o:Int) (nm f:ByteArray) (e:Ex) (ep:Option Addr) (em ec:Nat) (ap:Option Addr) (am ac:Nat):Array Value:=#[.int .i64 o,.string nm,.string f,.int .i64 e.o,.string e.s,.int .i64 e.n,.slice ep em ec,.int .i64 0,.string ⟨#[]⟩,.int .i64 0,.slice none 0 0,.slice ap am ac,.int .i64 0,.int .i64 0,.int .i64 0,.int .i64 0,.slice none 0 0,.slice none 0 0,.bool false,.slice none 0 0,.slice none 0 0]
def PB (ep:Option Addr) (em ec:Nat) (ap:Option Addr) (am ac:Nat):Pl:=⟨ep,em,ec,none,0,0,ap,am,ac,none,0,0,none,0,0,none,0,0,none,0,0⟩
section
variable {L:Lk} {g:Nat} {t:List Tk}
theorem zCO_0 {p:Prop} (h:p:=by
 have HBB:=HB.out;go_wp2_with fail;exact⟨rfl,PO.no (st_no HS (by assumption)) qe⟩
 ):p:=h
theorem zCO_1 {p:Prop} (h:p:=by first|(left;simp;done)|(left;simp;omega)|(right;simp;done)|(right;simp;omega)):p:=h
set_option maxRecDepth 100000 in
theorem begin_any (o:Int) (f:ByteArray) (w:World) (hR:Rd L g t w):Calls Tryz.prog 135 #[.pointer (some ⟨g,0,none⟩),.agg #[.int .i64 o,.string ⟨#[]⟩,.string f,.int .i64 0,.string ⟨#[]⟩,.int .i64 0,.slice none 0 0,.int .i64 0,.string ⟨#[]⟩,.int .i64 0,.slice none 0 0,.slice none 0 0,.int .i64 0,.int .i64 0,.int .i64 0,.int .i64 0,.slice none 0 0,.slice none 0 0,.bool false,.slice none 0 0,.slice none 0 0]] w (PO L g VSt (run (bgn o f) t) w):=by
 obtain⟨r,hr⟩:∃r,run (bgn o f) t=r:=⟨_,rfl⟩
 rw[hr];have HS:=hid hr;have hg:=hR.blk;have HR:=hid hR;have HB:Hid (Bt g w w):=hid (Eqv.refl _ _);clear hR hr;have Y:=hid (box_at (w2:=(w.alloc (.cells #[.int .i64 o,.string ⟨#[]⟩,.string f,.int .i64 0,.string ⟨#[]⟩,.int .i64 0,.slice none 0 0,.int .i64 0,.string ⟨#[]⟩,.int .i64 0,.slice none 0 0,.slice none 0 0,.int .i64 0,.int .i64 0,.int .i64 0,.int .i64 0,.slice none 0 0,.slice none 0 0,.bool false,.slice none 0 0,.slice none 0 0] 60)).alloc (.cells #[.int .i64 0,.string ⟨#[]⟩,.string ⟨#[]⟩,.int .i64 0,.string ⟨#[]⟩,.int .i64 0,.slice none 0 0,.int .i64 0,.string ⟨#[]⟩,.int .i64 0,.slice none 0 0,.slice none 0 0,.int .i64 0,.int .i64 0,.int .i64 0,.int .i64 0,.slice none 0 0,.slice none 0 0,.bool false,.slice none 0 0,.slice none 0 0] 60)) (Box.new (w:=w) (t:=60) (c:=#[.int .i64 o,.string ⟨#[]⟩,.string f,.int .i64 0,.string ⟨#[]⟩,.int .i64 0,.slice none 0 0,.int .i64 0,.string ⟨#[]⟩,.int .i64 0,.slice none 0 0,.slice none 0 0,.int .i64 0,.int .i64 0,.int .i64 0,.int .i64 0,.slice none 0 0,.slice none 0 0,.bool false,.slice none 0 0,.slice none 0 0])) qe);have z0:Box ((w.alloc (.cells #[.int .i64 o,.string ⟨#[]⟩,.string f,.int .i64 0,.string ⟨#[]⟩,.int .i64 0,.slice none 0 0,.int .i64 0,.string ⟨#[]⟩,.int .i64 0,.slice none 0 0,.slice none 0 0,.int .i64 0,.int .i64 0,.int .i64 0,.int .i64 0,.slice none 0 0,.slice none 0 0,.bool false,.slice none 0 0,.slice none 0 0] 60)).alloc (.cells #[.int .i64 0,.string ⟨#[]⟩,.string ⟨#[]⟩,.int .i64 0,.string ⟨#[]⟩,.int .i64 0,.slice none 0 0,.int .i64 0,.string ⟨#[]⟩,.int .i64 0,.slice none 0 0,.slice none 0 0,.int .i64 0,.int .i64 0,.int .i64 0,.int .i64 0,.slice none 0 0,.slice none 0 0,.bool false,.slice none 0 0,.slice none 0 0] 60)) (w.heap.size+1) 60 #[.int .i64 0,.string ⟨#[]⟩,.string ⟨#[]⟩,.int .i64 0,.string ⟨#[]⟩,.int .i64 0,.slice none 0 0,.int .i64 0,.string ⟨#[]⟩,.int .i64 0,.slice none 0 0,.slice none 0 0,.int .i64 0,.int .i64 0,.int .i64 0,.int .i64 0,.slice none 0 0,.slice none 0 0,.bool false,.slice none 0 0,.slice none 0 0]:=by
  have h:=Box.new (w:=w.alloc (.cells #[.int .i64 o,.string ⟨#[]⟩,.string f,.int .i64 0,.string ⟨#[]⟩,.int .i64 0,.slice none 0 0,.int .i64 0,.string ⟨#[]⟩,.int .i64 0,.slice none 0 0,.slice none 0 0,.int .i64 0,.int .i64 0,.int .i64 0,.int .i64 0,.slice none 0 0,.slice none 0 0,.bool false,.slice none 0 0,.slice none 0 0] 60)) (t:=60) (c:=#[.int .i64 0,.string ⟨#[]⟩,.string ⟨#[]⟩,.int .i64 0,.string ⟨#[]⟩,.int .i64 0,.slice none 0 0,.int .i64 0,.string ⟨#[]⟩,.int .i64 0,.slice none 0 0,.slice none 0 0,.int .i64 0,.int .i64 0,.int .i64 0,.int .i64 0,.slice none 0 0,.slice none 0 0,.bool false,.slice none 0 0,.slice none 0 0]);rwa [show(w.alloc (.cells #[.int .i64 o,.string ⟨#[]⟩,.string f,.int .i64 0,.string ⟨#[]⟩,.int .i64 0,.slice none 0 0,.int .i64 0,.string ⟨#[]⟩,.int .i64 0,.slice none 0 0,.slice none 0 0,.int .i64 0,.int .i64 0,.int .i64 0,.int .i64 0,.slice none 0 0,.slice none 0 0,.bool false,.slice none 0 0,.slice none 0 0] 60)).heap.size=w.heap.size+1 by simp] at h
 have Z:=hid z0;clear z0;go_enter Tryz.func135,Tryz.ntmps135;go_wp2_with fail;refine(name_any _ (HR.out.low qe)).mono ?_;rintro e w1 h1;rcases h1.cases with⟨x1,u1,v1,r1,rfl,b1,V1,R1⟩|⟨u1,r1,rfl,b1⟩
 rotate_left 1
 · exact zCO_0
 replace HS:=st_ok HS r1;replace Z:=hid (box_at (w2:=w1) Z.out qe);replace Y:=hid (box_at (w2:=w1) Y.out qe);replace HB:Hid (Bt g w w1):=hid qh;replace HR:=hid R1;clear b1 R1;clear r1 h1;obtain rfl:=V1;have hz1:=Z.out.lt;have l1:World.cell? _ ⟨_,1,none⟩=some (.string ⟨#[]⟩):=Y.out.get rfl;have fy:∀i,World.frozen? _ ⟨_,i,none⟩=false:=fun i=>box_frz (i:=i) Y.out;go_wp2_with fail;replace Y:=hid (box_set (i:=1) (v:=.string x1) Y.out);replace Z:=hid (box_at (w2:=World.setCell w1 ⟨w.heap.size,1,none⟩ (.string x1)) Z.out qe);replace HR:=hid (HR.out.low (w2:=World.setCell w1 ⟨w.heap.size,1,none⟩ (.string x1)) qe);replace HB:=hid (Eqv.set (p:=⟨w.heap.size,1,none⟩) (v:=.string x1) HB.out zCO_1);clear l1 fy;refine(listedX_any 53 xpr dn_xpr _ (HR.out.low qe) (fun _ _=>rfl) (fun W u hW _=>xpr_any W hW)).mono ?_;rintro e w3 h3;rcases h3.cases with⟨x3,u3,v3,r3,rfl,b3,V3,R3⟩|⟨u3,r3,rfl,b3⟩
 rotate_left 1
 · exact zCO_0
 replace HS:=st_ok HS r3;replace Z:=hid (box_at (w2:=w3) Z.out qe);replace Y:=hid (box_at (w2:=w3) Y.out qe);replace HB:Hid (Bt g w w3):=hid qh;replace HR:=hid R3;clear b3 R3;clear r3 h3;obtain⟨p3,m3,c3,rfl,k3⟩:=V3;have KA:Hid (Kin (fun b=>w.heap.size+1<b) w3 (.mk 0 nE 0 x3) p3 m3):=hid (kin_rw.2 (k3.map REx.map (Nat.le_refl _) fun b hb _=>⟨by
  have hb':_<=b:=hb;simp at hb'
  omega,rfl⟩))
 clear k3;have hz3:=Z.out.lt;have l2:World.cell? _ ⟨_,11,none⟩=some (.slice none 0 0):=Y.out.get rfl;have fy:∀i,World.frozen? _ ⟨_,i,none⟩=false:=fun i=>box_frz (i:=i) Y.out;go_wp2_with fail;replace Y:=hid (box_set (i:=11) (v:=.slice p3 m3 c3) Y.out);replace Z:=hid (box_at (w2:=World.setCell w3 ⟨w.heap.size,11,none⟩ (.slice p3 m3 c3)) Z.out qe);replace HR:=hid (HR.out.low (w2:=World.setCell w3 ⟨w.heap.size,11,none⟩ (.slice p3 m3 c3)) qe);replace HB:=hid (Eqv.set (p:=⟨w.heap.size,11,none⟩) (v:=.slice p3 m3 c3) HB.out zCO_1);replace KA:=hid (Ex.Kin.map (w2:=w3.setCell ⟨w.heap.size,11,none⟩ (.slice p3 m3 c3)) (by simp) (fun b hb hlt=>⟨hb,Eqv.block (S:=fun b=>w.heap.size+1<b) qe b hlt hb⟩) _ KA.out);clear l2 fy;refine(expect_any _ _ (HR.out.low qe) (by decide)).mono ?_;rintro e w4 h4;rcases h4.cases with⟨x4,u4,v4,r4,rfl,b4,V4,R4⟩|⟨u4,r4,rfl,b4⟩
 rotate_left 1
 · exact zCO_0
 replace HS:=st_ok HS r4;replace Z:=hid (box_at (w2:=w4) Z.out qe);replace Y:=hid (box_at (w2:=w4) Y.out qe);replace KA:=hid (Ex.Kin.map (w2:=w4) b4.size (fun b hb hlt=>⟨hb,Eqv.block (S:=fun b=>w.heap.size+1<b) qe b hlt hb⟩) _ KA.out);replace HB:Hid (Bt g w w4):=hid qh;replace HR:=hid R4;clear b4 R4;clear r4 h4;obtain rfl:=V4;have hz4:=Z.out.lt;go_wp2_with fail;refine(xpr_any _ (HR.out.low qe)).mono ?_;rintro e w5 h5;rcases h5.cases with⟨x5,u5,v5,r5,rfl,b5,V5,R5⟩|⟨u5,r5,rfl,b5⟩
 rotate_left 1
 · exact zCO_0
 replace HS:=st_ok HS r5;replace Z:=hid (box_at (w2:=w5) Z.out qe);replace Y:=hid (box_at (w2:=w5) Y.out qe);replace KA:=hid (Ex.Kin.map (w2:=w5) b5.size (fun b hb hlt=>⟨hb,Eqv.block (S:=fun b=>w.heap.size+1<b) qe b hlt hb⟩) _ KA.out);replace HB:Hid (Bt g w w5):=hid qh;replace HR:=hid R5;clear b5 R5;clear r5 h5;obtain⟨p5,m5,c5,rfl,k5⟩:=V5;have KX:Hid (Kin (fun b=>w.heap.size+1<b) w5 x5 p5 m5):=hid (k5.mono fun b hb hlt=>by
  have hb':w4.heap.size<=b:=hb;omega)
 clear k5;dsimp only [cEx];have l3:World.cell? _ ⟨_,3,none⟩=some (.int .i64 0):=Y.out.get rfl;have l4:World.cell? _ ⟨_,4,none⟩=some (.string ⟨#[]⟩):=Y.out.get rfl;have l5:World.cell? _ ⟨_,5,none⟩=some (.int .i64 0):=Y.out.get rfl;have l6:World.cell? _ ⟨_,6,none⟩=some (.slice none 0 0):=Y.out.get rfl;have fy:∀i,World.frozen? _ ⟨_,i,none⟩=false:=fun i=>box_frz (i:=i) Y.out;replace Y:=hid (box_set (i:=3) (v:=.int .i64 x5.o) Y.out);replace Z:=hid (box_at (w2:=World.setCell w5 ⟨w.heap.size,3,none⟩ (.int .i64 x5.o)) Z.out qe);replace HR:=hid (HR.out.low (w2:=World.setCell w5 ⟨w.heap.size,3,none⟩ (.int .i64 x5.o)) qe);replace HB:=hid (Eqv.set (p:=⟨w.heap.size,3,none⟩) (v:=.int .i64 x5.o) HB.out zCO_1);replace Y:=hid (box_set (i:=4) (v:=.string x5.s) Y.out);replace Z:=hid (box_at (w2:=World.setCell (w5.setCell ⟨w.heap.size,3,none⟩ (.int .i64 x5.o)) ⟨w.heap.size,4,none⟩ (.string x5.s)) Z.out qe);replace HR:=hid (HR.out.low (w2:=World.setCell (w5.setCell ⟨w.heap.size,3,none⟩ (.int .i64 x5.o)) ⟨w.heap.size,4,none⟩ (.string x5.s)) qe);replace HB:=hid (Eqv.set (p:=⟨w.heap.size,4,none⟩) (v:=.string x5.s) HB.out zCO_1);replace Y:=hid (box_set (i:=5) (v:=.int .i64 x5.n) Y.out);replace Z:=hid (box_at (w2:=World.setCell ((w5.setCell ⟨w.heap.size,3,none⟩ (.int .i64 x5.o)).setCell ⟨w.heap.size,4,none⟩ (.string x5.s)) ⟨w.heap.size,5,none⟩ (.int .i64 x5.n)) Z.out qe);replace HR:=hid (HR.out.low (w2:=World.setCell ((w5.setCell ⟨w.heap.size,3,none⟩ (.int .i64 x5.o)).setCell ⟨w.heap.size,4,none⟩ (.string x5.s)) ⟨w.heap.size,5,none⟩ (.int .i64 x5.n)) qe);replace HB:=hid (Eqv.set (p:=⟨w.heap.size,5,none⟩) (v:=.int .i64 x5.n) HB.out zCO_1);replace Y:=hid (box_set (i:=6) (v:=.slice p5 m5 c5) Y.out);replace Z:=hid (box_at (w2:=World.setCell (((w5.setCell ⟨w.heap.size,3,none⟩ (.int .i64 x5.o)).setCell ⟨w.heap.size,4,none⟩ (.string x5.s)).setCell ⟨w.heap.size,5,none⟩ (.int .i64 x5.n)) ⟨w.heap.size,6,none⟩ (.slice p5 m5 c5)) Z.out qe);replace HR:=hid (HR.out.low (w2:=World.setCell (((w5.setCell ⟨w.heap.size,3,none⟩ (.int .i64 x5.o)).setCell ⟨w.heap.size,4,none⟩ (.string x5.s)).setCell ⟨w.heap.size,5,none⟩ (.int .i64 x5.n)) ⟨w.heap.size,6,none⟩ (.slice p5 m5 c5)) qe);replace HB:=hid (Eqv.set (p:=⟨w.heap.size,6,none⟩) (v:=.slice p5 m5 c5) HB.out zCO_1);replace Y:Hid (Box ((((w5.setCell ⟨w.heap.size,3,none⟩ (.int .i64 x5.o)).setCell ⟨w.heap.size,4,none⟩ (.string x5.s)).setCell ⟨w.heap.size,5,none⟩ (.int .i64 x5.n)).setCell ⟨w.heap.size,6,none⟩ (.slice p5 m5 c5)) w.heap.size 60 (cB o x1 f x5 p5 m5 c5 p3 m3 c3)):=hid Y.out;have KK:Hid (∀W,Eqv (fun b=>w.heap.size+1<b) w5 W->Sin (fun b=>w.heap.size<=b) W (.mk o x1 f x5 zE x3 zD false [] []) (PB p5 m5 c5 p3 m3 c3)):=hid fun W q=>by
  have hk:∀b,(fun b=>w.heap.size+1<b) b->b<w5.heap.size->(fun b=>w.heap.size<=b) b/\W.heap[b]?=w5.heap[b]?:=fun b hb hlt=>⟨by show w.heap.size<=b;have hb':w.heap.size+1<b:=hb;omega,q.block b hlt hb⟩
  exact sin_iff.2 ⟨⟨Ex.Kin.map q.size hk _ KX.out,Ex.Kin.zero,Ex.Kin.map q.size hk _ KA.out,ints_nil,ints_nil⟩,Sm.Lin.nil,Sm.Lin.nil⟩
 clear KX KA;dsimp only [cB] at Y;obtain⟨W,hP⟩:=put_box (c:=cB o x1 f x5 p5 m5 c5 p3 m3 c3) Z.out st_big (by unfold cB;simp[Value.oneCell']) rfl;have vr4:=hP.bt;have vr5:=hid hP.box;have vr6:=hP.size;dsimp only [cB] at hP;go_wp2_with (first|(refine wpList_load_row rfl 60 _ rfl _ rfl 60 _ (0,0) _ Y.out Tryz.underlying60 rfl (by kernel_rfl) ?_)|(refine wpList_put rfl 60 _ _ rfl (w.heap.size+1) _ rfl rfl hP ?_))
 have HBB:=HB.out;refine bodyPost_ret (v:=.agg (cs (.mk o x1 f x5 zE x3 zD false [] []) (PB p5 m5 c5 p3 m3 c3))) ?_ rfl (PO.ok (st_end HS) qe ⟨(PB p5 m5 c5 p3 m3 c3),rfl,KK.out _ qe⟩ (HR.out.low qe));exact results_cell_row rfl _ _ (w.heap.size+1) 60 _ (0,0) _ rfl vr5.out Tryz.underlying60 rfl (by kernel_rfl)
end
end Go.Proofs.YtbgodajefaahdaaGreatDoor.Ps
namespace Go.Proofs.YtbgodajefaahdaaGreatDoor.Ps
open Go.Proofs.YtbgodajefaahdaaGreatDoor.Ps.P (bd exp)
open Go.RowKit
open Go.Proofs.YtbgodajefaahdaaGreatDoor.Lx (Tk)
open Go.Proofs.YtbgodajefaahdaaGreatDoor.Sm (St Sin Pl cs)
open Go.Proofs.YtbgodajefaahdaaGreatDoor.Md (Box)
set_option maxHeartbeats 1000000
theorem sin_fin {a:Nat} {w w2:World} {x:St} {P:Pl} (h:Sin (fun b=>a<b) w x P) (hb:Eqv (fun b=>a<b) w w2):Sin (fun b=>a<=b) w2 x P:=by
 have hk:∀b,(fun b=>a<b) b->b<w.heap.size->(fun b=>a<=b) b/\w2.heap[b]?=w.heap[b]?:=fun b hg hlt=>⟨Nat.le_of_lt hg,hb.block b hlt hg⟩
 exact Sm.Sin.map hb.size hk x h
theorem new_at (z c:Array Value) (hz:z.size=21) (hc:c.size=21) (h1:c.all (·.oneCell')=true) (w:World):(Instr.storeAt 60 (.pointer (some ⟨w.heap.size,0,none⟩)) (.agg c)).run Tryz.prog (w.alloc (.cells z 60))=.ok () (w.alloc (.cells c 60)):=
 run_storeAt_new w _ _ _ (by rw[hc];kernel_rfl) (hz.trans hc.symm) h1
theorem wpList_new {ops:Array Oper} {rest:List Oper} {o:Oper} {a:Act} {w:World} {Q:Exit->Act->World->Prop} (hgd:o.guard=none) (x y:Operand) (ho:o.op=.store 60 x y) (z cells:Array Value) (hx:a.eval x=.pointer (some ⟨w.heap.size,0,none⟩)) (hy:a.eval y=.agg cells) (hz:z.size=21) (hc:cells.size=21) (h1:cells.all (·.oneCell')=true) (h:wpList Tryz.prog ops Q rest (a.put o.dst undef) (w.alloc (.cells cells 60))):wpList Tryz.prog ops Q (o::rest) a (w.alloc (.cells z 60)):=
 wpList_plain hgd fun _ hK=>by
  have h2:=new_at z cells hz hc h1 w;unfold Oper.wp execOp;simp only[ho,hx,hy,h2,Sem.run_bind,Sem.run_pure,Result.andThen_ok];exact hK _ _ h
section
variable {L:Lk} {g:Nat} {t:List Tk}
set_option maxRecDepth 100000 in
theorem send_any (w:World) (hR:Rd L g t w):Calls Tryz.prog 134 #[.pointer (some ⟨g,0,none⟩)] w (PO L g VSt (run (bd nam fun f=>bd (exp zDot) fun _=>bgn 13 f) t) w):=by
 obtain⟨r,hr⟩:∃r,run (bd nam fun f=>bd (exp zDot) fun _=>bgn 13 f) t=r:=⟨_,rfl⟩
 rw[hr];have HS:=hid hr;have hg:=hR.blk;have HR:=hid hR;have HB:Hid (Bt g w w):=hid (Eqv.refl _ _);clear hR hr;have Z:=hid (Box.new (w:=w) (t:=60) (c:=#[.int .i64 0,.string ⟨#[]⟩,.string ⟨#[]⟩,.int .i64 0,.string ⟨#[]⟩,.int .i64 0,.slice none 0 0,.int .i64 0,.string ⟨#[]⟩,.int .i64 0,.slice none 0 0,.slice none 0 0,.int .i64 0,.int .i64 0,.int .i64 0,.int .i64 0,.slice none 0 0,.slice none 0 0,.bool false,.slice none 0 0,.slice none 0 0]));go_enter Tryz.func134,Tryz.ntmps134;go_wp2_with fail;refine(name_any _ (HR.out.low qe)).mono ?_;rintro e w1 h1;rcases h1.cases with⟨x1,u1,v1,r1,rfl,b1,V1,R1⟩|⟨u1,r1,rfl,b1⟩
 rotate_left 1
 · have HBB:=HB.out;go_wp2_with fail;exact⟨rfl,PO.no (st_no HS (by assumption)) qe⟩
 replace HS:=st_ok HS r1;replace Z:=hid (box_at (w2:=w1) Z.out qe);replace HB:Hid (Bt g w w1):=hid qh;replace HR:=hid R1;clear b1 R1;clear r1 h1;obtain rfl:=V1;have hz1:=Z.out.lt;have Y:=hid (Box.new (w:=w1) (t:=60) (c:=#[.int .i64 13,.string ⟨#[]⟩,.string x1,.int .i64 0,.string ⟨#[]⟩,.int .i64 0,.slice none 0 0,.int .i64 0,.string ⟨#[]⟩,.int .i64 0,.slice none 0 0,.slice none 0 0,.int .i64 0,.int .i64 0,.int .i64 0,.int .i64 0,.slice none 0 0,.slice none 0 0,.bool false,.slice none 0 0,.slice none 0 0]));go_wp2_with (refine wpList_new rfl _ _ rfl _ #[.int .i64 13,.string ⟨#[]⟩,.string x1,.int .i64 0,.string ⟨#[]⟩,.int .i64 0,.slice none 0 0,.int .i64 0,.string ⟨#[]⟩,.int .i64 0,.slice none 0 0,.slice none 0 0,.int .i64 0,.int .i64 0,.int .i64 0,.int .i64 0,.slice none 0 0,.slice none 0 0,.bool false,.slice none 0 0,.slice none 0 0] rfl rfl rfl rfl (by simp[Value.oneCell']) ?_)
 refine(expect_any _ _ (HR.out.low qe) (by decide)).mono ?_;rintro e w3 h3;rcases h3.cases with⟨x3,u3,v3,r3,rfl,b3,V3,R3⟩|⟨u3,r3,rfl,b3⟩
 rotate_left 1
 · have HBB:=HB.out;go_wp2_with fail;exact⟨rfl,PO.no (st_no HS (by assumption)) qe⟩
 replace HS:=st_ok HS r3;replace Z:=hid (box_at (w2:=w3) Z.out qe);replace Y:=hid (box_at (w2:=w3) Y.out qe);replace HB:Hid (Bt g w w3):=hid qh;replace HR:=hid R3;clear b3 R3;clear r3 h3;obtain rfl:=V3;go_wp2_with (refine wpList_load_row rfl 60 _ rfl _ rfl 60 _ (0,0) _ Y.out Tryz.underlying60 rfl (by kernel_rfl) ?_)
 have hz4:=Z.out.lt;refine(begin_any 13 x1 _ (HR.out.low qe)).mono ?_;rintro e w4 h4;rcases h4.cases with⟨x4,u4,v4,r4,rfl,b4,V4,R4⟩|⟨u4,r4,rfl,b4⟩
 rotate_left 1
 · have HBB:=HB.out;go_wp2_with fail;exact⟨rfl,PO.no (HS.out.symm.trans r4) qe⟩
 have HL4:=hid (HS.out.symm.trans r4);replace Z:=hid (box_at (w2:=w4) Z.out qe);replace HB:Hid (Bt g w w4):=hid qh;replace HR:=hid R4;clear b4 R4;clear r4 h4;obtain⟨P4,rfl,k4⟩:=V4;have KS4:Hid (Sin (fun b=>w.heap.size<b) w4 x4 P4):=hid (k4.mono fun b hb hlt=>(by have hb':_<=b:=hb;first|(simp at hb';omega)|omega));clear k4;obtain⟨W,hP⟩:=put_box (c:=cs x4 P4) Z.out st_big (Sm.cs_one _ _) rfl;have vr4:=hP.bt;have vr5:=hid hP.box;have vr6:=hP.size;go_wp2_with (refine wpList_put rfl 60 _ _ rfl w.heap.size _ rfl rfl hP ?_)
 have HBB:=HB.out;refine bodyPost_ret (v:=.agg (cs (x4) (P4))) ?_ rfl (PO.ok (HL4.out) qe ⟨(P4),rfl,sin_fin KS4.out qe⟩ (HR.out.low qe));exact results_cell_row rfl _ _ w.heap.size 60 _ (0,0) _ rfl vr5.out Tryz.underlying60 rfl (by kernel_rfl)
end
end Go.Proofs.YtbgodajefaahdaaGreatDoor.Ps
namespace Go.Proofs.YtbgodajefaahdaaGreatDoor.Ps
open Go.Proofs.YtbgodajefaahdaaGreatDoor.Ps.P (rt bd acc exp)
open Go.RowKit
open Go.Proofs.YtbgodajefaahdaaGreatDoor.Lx (Tk mt)
open Go.Proofs.YtbgodajefaahdaaGreatDoor.Ex (Ex Kin)
open Go.Proofs.YtbgodajefaahdaaGreatDoor.Sm (St Sin Pl cs sin_iff zD)
open Go.Proofs.YtbgodajefaahdaaGreatDoor.Md (Box)
set_option maxHeartbeats 1000000
theorem chg_ok {o:Int} {t u:List Tk} {x:St} (h:run (chg o) t=.ok x u):∃s e,x=stm o s mt e/\∀{α:Type} (K:ByteArray->Ex->P α),run (bd nam fun s=>bd xpr fun e=>K s e) t=run (K s e) u:=by
 unfold chg at h
 cases hn:run nam t with
 | no v=>rw[bd_no hn] at h;cases h
 | ok s v=>
  rw[bd_ok hn] at h
  cases he:run xpr v with
  | no v2=>rw[bd_no he] at h;cases h
  | ok e v2=>
   rw[bd_ok he,run_rt] at h;cases h
   exact⟨s,e,rfl,fun K=>by rw[bd_ok hn,bd_ok he]⟩
theorem chg_no {o:Int} {t u:List Tk} (h:run (chg o) t=.no u) {α:Type} (K:ByteArray->Ex->P α):run (bd nam fun s=>bd xpr fun e=>K s e) t=.no u:=by
 unfold chg at h
 cases hn:run nam t with
 | no v=>rw[bd_no hn] at h ⊢; cases h;rfl
 | ok s v=>
  rw[bd_ok hn] at h ⊢
  cases he:run xpr v with
  | no v2=>rw[bd_no he] at h ⊢; cases h;rfl
  | ok e v2=>rw[bd_ok he,run_rt] at h;cases h
def PG (P:Pl) (p:Option Addr) (m c:Nat):Pl:={ P with gp:=p,gm:=m,gc:=c }
theorem sin_seize {G:Nat->Prop} {w:World} {s:ByteArray} {e x:Ex} {P:Pl} {p:Option Addr} {m c:Nat} {b:Bool} (h:Sin G w (stm 6 s mt e) P) (hx:Kin G w x p m):Sin G w (.mk 6 s mt e x [] zD b [] []) (PG P p m c):=by
 obtain⟨⟨h1,-,h3,h4,h5⟩,h6,h7⟩:=sin_iff.1 h;exact sin_iff.2 ⟨⟨h1,hx,h3,h4,h5⟩,h6,h7⟩
section
variable {L:Lk} {g:Nat} {t:List Tk}
theorem zCQ_0 {p:Prop} (h:p:=by first|(left;simp;done)|(left;simp;omega)|(right;simp;done)|(right;simp;omega)):p:=h
set_option maxRecDepth 100000 in
theorem seize_any (w:World) (hR:Rd L g t w):Calls Tryz.prog 132 #[.pointer (some ⟨g,0,none⟩)] w (PO L g VSt (run (bd nam fun s=>bd xpr fun e=>bd (exp kPrio) fun _=>bd xpr fun g=>bd (acc kPreempt (rt true) (rt false)) fun b=>rt (St.mk 6 s mt e g [] zD b [] [])) t) w):=by
 obtain⟨r,hr⟩:∃r,run (bd nam fun s=>bd xpr fun e=>bd (exp kPrio) fun _=>bd xpr fun g=>bd (acc kPreempt (rt true) (rt false)) fun b=>rt (St.mk 6 s mt e g [] zD b [] [])) t=r:=⟨_,rfl⟩
 rw[hr];have HS:=hid hr;have hg:=hR.blk;have HR:=hid hR;have HB:Hid (Bt g w w):=hid (Eqv.refl _ _);clear hR hr;have Z:=hid (Box.new (w:=w) (t:=60) (c:=#[.int .i64 0,.string ⟨#[]⟩,.string ⟨#[]⟩,.int .i64 0,.string ⟨#[]⟩,.int .i64 0,.slice none 0 0,.int .i64 0,.string ⟨#[]⟩,.int .i64 0,.slice none 0 0,.slice none 0 0,.int .i64 0,.int .i64 0,.int .i64 0,.int .i64 0,.slice none 0 0,.slice none 0 0,.bool false,.slice none 0 0,.slice none 0 0]));have hz0:=Z.out.lt;go_enter Tryz.func132,Tryz.ntmps132;go_wp2_with fail;refine(change_any 6 _ (HR.out.low qe)).mono ?_;rintro ee w1 h1;rcases h1.cases with⟨x1,u1,v1,r1,rfl,b1,V1,R1⟩|⟨u1,r1,rfl,b1⟩
 rotate_left 1
 · have HBB:=HB.out;go_wp2_with fail;exact⟨rfl,PO.no (HS.out.symm.trans (chg_no r1 _)) qe⟩
 obtain⟨s,e,rfl,hK⟩:=chg_ok r1;replace HS:=hid ((hK _).symm.trans HS.out);replace Z:=hid (box_at (w2:=w1) Z.out qe);obtain⟨P1,rfl,k1⟩:=V1;have KS:Hid (Sin (fun b=>w.heap.size<b) w1 (stm 6 s mt e) P1):=hid (k1.mono fun b hb hlt=>(by have hb':_<=b:=hb;simp at hb';omega));replace HB:Hid (Bt g w w1):=hid qh;replace HR:=hid R1;clear b1 R1;clear k1 h1 r1 hK;have hz1:=Z.out.lt;have Y:=hid (Box.new (w:=w1) (t:=60) (c:=cs (stm 6 s mt e) P1));go_wp2_with (refine wpList_new rfl _ _ rfl _ (cs (stm 6 s mt e) P1) rfl rfl rfl rfl (Sm.cs_one _ _) ?_)
 refine(expect_any _ _ (HR.out.low qe) (by decide)).mono ?_;rintro e w3 h3;rcases h3.cases with⟨x3,u3,v3,r3,rfl,b3,V3,R3⟩|⟨u3,r3,rfl,b3⟩
 rotate_left 1
 · have HBB:=HB.out;go_wp2_with fail;exact⟨rfl,PO.no (st_no HS (by assumption)) qe⟩
 replace HS:=st_ok HS r3;replace Z:=hid (box_at (w2:=w3) Z.out qe);replace Y:=hid (box_at (w2:=w3) Y.out qe);have QP:Hid (Eqv (fun b=>b<w1.heap.size/\w.heap.size<b) w1 w3):=hid qe;replace HB:Hid (Bt g w w3):=hid qh;replace HR:=hid R3;clear b3 R3;clear r3 h3;obtain rfl:=V3;have KP:Hid (Sin (fun b=>w.heap.size<b/\¬b=w1.heap.size) w3 (stm 6 s mt e) P1):=hid (by
  have q:=QP.out;exact Sm.Sin.map q.size (fun b hb hlt=>⟨⟨hb,by omega⟩,q.block b hlt ⟨hlt,hb⟩⟩) _ KS.out)
 clear QP;clear KS;have hz3:=Z.out.lt;have hy3:=Y.out.lt;go_wp2_with fail;refine(xpr_any _ (HR.out.low qe)).mono ?_;rintro e w4 h4;rcases h4.cases with⟨x4,u4,v4,r4,rfl,b4,V4,R4⟩|⟨u4,r4,rfl,b4⟩
 rotate_left 1
 · have HBB:=HB.out;go_wp2_with fail;exact⟨rfl,PO.no (st_no HS (by assumption)) qe⟩
 replace HS:=st_ok HS r4;replace Z:=hid (box_at (w2:=w4) Z.out qe);replace Y:=hid (box_at (w2:=w4) Y.out qe);replace KP:=hid (Sm.Sin.map b4.size (fun b hb hlt=>⟨hb,Eqv.block (S:=fun b=>w.heap.size<b/\¬b=w1.heap.size) qe b hlt hb⟩) _ KP.out);replace HB:Hid (Bt g w w4):=hid qh;replace HR:=hid R4;clear b4 R4;clear r4 h4;obtain⟨p4,m4,c4,rfl,k4⟩:=V4;have K4:Hid (∀z,Sin (fun b=>w.heap.size<b/\¬b=w1.heap.size) ((((w4.setCell ⟨w1.heap.size,7,none⟩ (.int .i64 x4.o)).setCell ⟨w1.heap.size,8,none⟩ (.string x4.s)).setCell ⟨w1.heap.size,9,none⟩ (.int .i64 x4.n)).setCell ⟨w1.heap.size,10,none⟩ (.slice p4 m4 c4)) (.mk 6 s mt e x4 [] zD z [] []) (PG P1 p4 m4 c4)):=hid fun z=>by
  have q:Eqv (fun b=>w.heap.size<b/\¬b=w1.heap.size) w4 ((((w4.setCell ⟨w1.heap.size,7,none⟩ (.int .i64 x4.o)).setCell ⟨w1.heap.size,8,none⟩ (.string x4.s)).setCell ⟨w1.heap.size,9,none⟩ (.int .i64 x4.n)).setCell ⟨w1.heap.size,10,none⟩ (.slice p4 m4 c4)):=by exact qe
  exact Sm.Sin.map q.size (fun b hb hlt=>⟨hb,q.block b hlt hb⟩) _ (sin_seize KP.out (k4.mono fun b hb hlt=>by
   have hb':w3.heap.size<=b:=hb;exact⟨by omega,by omega⟩))
 clear KP k4;dsimp only [cEx];have l7:World.cell? _ ⟨_,7,none⟩=some (.int .i64 0):=Y.out.get rfl;have l8:World.cell? _ ⟨_,8,none⟩=some (.string ⟨#[]⟩):=Y.out.get rfl;have l9:World.cell? _ ⟨_,9,none⟩=some (.int .i64 0):=Y.out.get rfl;have l10:World.cell? _ ⟨_,10,none⟩=some (.slice P1.gp P1.gm P1.gc):=Y.out.get rfl;have fy:∀i,World.frozen? _ ⟨_,i,none⟩=false:=fun i=>box_frz (i:=i) Y.out;go_wp2_with fail;replace Y:=hid (box_set (i:=7) (v:=.int .i64 x4.o) Y.out);replace Z:=hid (box_at (w2:=World.setCell w4 ⟨w1.heap.size,7,none⟩ (.int .i64 x4.o)) Z.out qe);replace HR:=hid (HR.out.low (w2:=World.setCell w4 ⟨w1.heap.size,7,none⟩ (.int .i64 x4.o)) qe);replace HB:=hid (Eqv.set (p:=⟨w1.heap.size,7,none⟩) (v:=.int .i64 x4.o) HB.out zCQ_0);replace Y:=hid (box_set (i:=8) (v:=.string x4.s) Y.out);replace Z:=hid (box_at (w2:=World.setCell (w4.setCell ⟨w1.heap.size,7,none⟩ (.int .i64 x4.o)) ⟨w1.heap.size,8,none⟩ (.string x4.s)) Z.out qe);replace HR:=hid (HR.out.low (w2:=World.setCell (w4.setCell ⟨w1.heap.size,7,none⟩ (.int .i64 x4.o)) ⟨w1.heap.size,8,none⟩ (.string x4.s)) qe);replace HB:=hid (Eqv.set (p:=⟨w1.heap.size,8,none⟩) (v:=.string x4.s) HB.out zCQ_0);replace Y:=hid (box_set (i:=9) (v:=.int .i64 x4.n) Y.out);replace Z:=hid (box_at (w2:=World.setCell ((w4.setCell ⟨w1.heap.size,7,none⟩ (.int .i64 x4.o)).setCell ⟨w1.heap.size,8,none⟩ (.string x4.s)) ⟨w1.heap.size,9,none⟩ (.int .i64 x4.n)) Z.out qe);replace HR:=hid (HR.out.low (w2:=World.setCell ((w4.setCell ⟨w1.heap.size,7,none⟩ (.int .i64 x4.o)).setCell ⟨w1.heap.size,8,none⟩ (.string x4.s)) ⟨w1.heap.size,9,none⟩ (.int .i64 x4.n)) qe);replace HB:=hid (Eqv.set (p:=⟨w1.heap.size,9,none⟩) (v:=.int .i64 x4.n) HB.out zCQ_0);replace Y:=hid (box_set (i:=10) (v:=.slice p4 m4 c4) Y.out);replace Z:=hid (box_at (w2:=World.setCell (((w4.setCell ⟨w1.heap.size,7,none⟩ (.int .i64 x4.o)).setCell ⟨w1.heap.size,8,none⟩ (.string x4.s)).setCell ⟨w1.heap.size,9,none⟩ (.int .i64 x4.n)) ⟨w1.heap.size,10,none⟩ (.slice p4 m4 c4)) Z.out qe);replace HR:=hid (HR.out.low (w2:=World.setCell (((w4.setCell ⟨w1.heap.size,7,none⟩ (.int .i64 x4.o)).setCell ⟨w1.heap.size,8,none⟩ (.string x4.s)).setCell ⟨w1.heap.size,9,none⟩ (.int .i64 x4.n)) ⟨w1.heap.size,10,none⟩ (.slice p4 m4 c4)) qe);replace HB:=hid (Eqv.set (p:=⟨w1.heap.size,10,none⟩) (v:=.slice p4 m4 c4) HB.out zCQ_0);replace Y:Hid (Box ((((w4.setCell ⟨w1.heap.size,7,none⟩ (.int .i64 x4.o)).setCell ⟨w1.heap.size,8,none⟩ (.string x4.s)).setCell ⟨w1.heap.size,9,none⟩ (.int .i64 x4.n)).setCell ⟨w1.heap.size,10,none⟩ (.slice p4 m4 c4)) w1.heap.size 60 (cs (.mk 6 s mt e x4 [] zD false [] []) (PG P1 p4 m4 c4))):=hid Y.out;clear l7 l8 l9 l10 fy;refine(accept_any kPreempt _ (HR.out.low qe) (by decide)).mono ?_;rintro e w5 ⟨b5,⟨i5,rfl,R5⟩|⟨i5,rfl,R5⟩⟩
 · replace HS:=st_br (st_by HS i5);replace Z:=hid (box_at (w2:=w5) Z.out qe);replace Y:=hid (box_at (w2:=w5) Y.out qe);have K5:Hid (Sin (fun b=>w.heap.size<b/\¬b=w1.heap.size) w5 (.mk 6 s mt e x4 [] zD true [] []) (PG P1 p4 m4 c4)):=hid (by
    have q:Eqv (fun b=>w.heap.size<b/\¬b=w1.heap.size) ((((w4.setCell ⟨w1.heap.size,7,none⟩ (.int .i64 x4.o)).setCell ⟨w1.heap.size,8,none⟩ (.string x4.s)).setCell ⟨w1.heap.size,9,none⟩ (.int .i64 x4.n)).setCell ⟨w1.heap.size,10,none⟩ (.slice p4 m4 c4)) w5:=by exact qe
    exact Sm.Sin.map q.size (fun b hb hlt=>⟨hb,q.block b hlt hb⟩) _ (K4.out true))
   replace HB:Hid (Bt g w w5):=hid qh;replace HR:=hid R5;clear b5 R5;clear i5 K4;have l18:World.cell? _ ⟨_,18,none⟩=some (.bool false):=Y.out.get rfl;have fy:∀i,World.frozen? _ ⟨_,i,none⟩=false:=fun i=>box_frz (i:=i) Y.out;replace Y:=hid (box_set (i:=18) (v:=.bool true) Y.out);replace Z:=hid (box_at (w2:=World.setCell w5 ⟨w1.heap.size,18,none⟩ (.bool true)) Z.out qe);replace HR:=hid (HR.out.low (w2:=World.setCell w5 ⟨w1.heap.size,18,none⟩ (.bool true)) qe);replace HB:=hid (Eqv.set (p:=⟨w1.heap.size,18,none⟩) (v:=.bool true) HB.out zCQ_0);replace Y:Hid (Box (w5.setCell ⟨w1.heap.size,18,none⟩ (.bool true)) w1.heap.size 60 (cs (.mk 6 s mt e x4 [] zD true [] []) (PG P1 p4 m4 c4))):=hid Y.out;obtain⟨W,hP⟩:=put_box (c:=cs (.mk 6 s mt e x4 [] zD true [] []) (PG P1 p4 m4 c4)) Z.out st_big (Sm.cs_one _ _) rfl;have vr4:=hP.bt;have vr5:=hid hP.box;have vr6:=hP.size;go_wp2_with (first|(refine wpList_load_row rfl 60 _ rfl _ rfl 60 _ (0,0) _ Y.out Tryz.underlying60 rfl (by kernel_rfl) ?_)|(refine wpList_put rfl 60 _ _ rfl w.heap.size _ rfl rfl hP ?_))
   have q:∀W,Eqv (fun b=>w.heap.size<b/\¬b=w1.heap.size) w5 W->Sin (fun b=>w.heap.size<=b) W (.mk 6 s mt e x4 [] zD true [] []) (PG P1 p4 m4 c4):=fun W q=>Sm.Sin.map q.size (fun b hb hlt=>⟨Nat.le_of_lt hb.1,q.block b hlt hb⟩) _ K5.out;have HBB:=HB.out;refine bodyPost_ret (v:=.agg (cs (.mk 6 s mt e x4 [] zD true [] []) (PG P1 p4 m4 c4))) ?_ rfl (PO.ok ((st_end HS)) qe ⟨(PG P1 p4 m4 c4),rfl,q _ qe⟩ (HR.out.low qe));exact results_cell_row rfl _ _ w.heap.size 60 _ (0,0) _ rfl vr5.out Tryz.underlying60 rfl (by kernel_rfl)
 · replace HS:=st_br (st_bn HS i5);replace Z:=hid (box_at (w2:=w5) Z.out qe);replace Y:=hid (box_at (w2:=w5) Y.out qe);have K5:Hid (Sin (fun b=>w.heap.size<b/\¬b=w1.heap.size) w5 (.mk 6 s mt e x4 [] zD false [] []) (PG P1 p4 m4 c4)):=hid (by
    have q:Eqv (fun b=>w.heap.size<b/\¬b=w1.heap.size) ((((w4.setCell ⟨w1.heap.size,7,none⟩ (.int .i64 x4.o)).setCell ⟨w1.heap.size,8,none⟩ (.string x4.s)).setCell ⟨w1.heap.size,9,none⟩ (.int .i64 x4.n)).setCell ⟨w1.heap.size,10,none⟩ (.slice p4 m4 c4)) w5:=by exact qe
    exact Sm.Sin.map q.size (fun b hb hlt=>⟨hb,q.block b hlt hb⟩) _ (K4.out false))
   replace HB:Hid (Bt g w w5):=hid qh;replace HR:=hid R5;clear b5 R5;clear i5 K4;have l18:World.cell? _ ⟨_,18,none⟩=some (.bool false):=Y.out.get rfl;have fy:∀i,World.frozen? _ ⟨_,i,none⟩=false:=fun i=>box_frz (i:=i) Y.out;replace Y:=hid (box_set (i:=18) (v:=.bool false) Y.out);replace Z:=hid (box_at (w2:=World.setCell w5 ⟨w1.heap.size,18,none⟩ (.bool false)) Z.out qe);replace HR:=hid (HR.out.low (w2:=World.setCell w5 ⟨w1.heap.size,18,none⟩ (.bool false)) qe);replace HB:=hid (Eqv.set (p:=⟨w1.heap.size,18,none⟩) (v:=.bool false) HB.out zCQ_0);replace Y:Hid (Box (w5.setCell ⟨w1.heap.size,18,none⟩ (.bool false)) w1.heap.size 60 (cs (.mk 6 s mt e x4 [] zD false [] []) (PG P1 p4 m4 c4))):=hid Y.out;obtain⟨W,hP⟩:=put_box (c:=cs (.mk 6 s mt e x4 [] zD false [] []) (PG P1 p4 m4 c4)) Z.out st_big (Sm.cs_one _ _) rfl;have vr4:=hP.bt;have vr5:=hid hP.box;have vr6:=hP.size;go_wp2_with (first|(refine wpList_load_row rfl 60 _ rfl _ rfl 60 _ (0,0) _ Y.out Tryz.underlying60 rfl (by kernel_rfl) ?_)|(refine wpList_put rfl 60 _ _ rfl w.heap.size _ rfl rfl hP ?_))
   have q:∀W,Eqv (fun b=>w.heap.size<b/\¬b=w1.heap.size) w5 W->Sin (fun b=>w.heap.size<=b) W (.mk 6 s mt e x4 [] zD false [] []) (PG P1 p4 m4 c4):=fun W q=>Sm.Sin.map q.size (fun b hb hlt=>⟨Nat.le_of_lt hb.1,q.block b hlt hb⟩) _ K5.out;have HBB:=HB.out;refine bodyPost_ret (v:=.agg (cs (.mk 6 s mt e x4 [] zD false [] []) (PG P1 p4 m4 c4))) ?_ rfl (PO.ok ((st_end HS)) qe ⟨(PG P1 p4 m4 c4),rfl,q _ qe⟩ (HR.out.low qe));exact results_cell_row rfl _ _ w.heap.size 60 _ (0,0) _ rfl vr5.out Tryz.underlying60 rfl (by kernel_rfl)
end
end Go.Proofs.YtbgodajefaahdaaGreatDoor.Ps
namespace Go.Proofs.YtbgodajefaahdaaGreatDoor.Ps
open Go.RowKit
open Go.Proofs.YtbgodajefaahdaaGreatDoor.Lx (Toks)
open Go.Proofs.YtbgodajefaahdaaGreatDoor.Md (Box Mdl cMdl RMdl OMdl)
set_option maxHeartbeats 600000
set_option maxRecDepth 100000 in
theorem catchM_pan (p:Addr) (x n:Int) (older:List PanicEntry) (w:World) (hc:w.cell? p=some (.int .i64 x)) (hz:w.frozen? p=false):CallsD Tryz.prog 57 #[.pointer (some p)] (.panicking ({ v:=.iface 137 (.agg #[.int .i64 n]),recovered:=false }::older)) w fun e u' w'=>e=.returned (.tuple #[])/\u'=.panicking ({ v:=.iface 137 (.agg #[.int .i64 n]),recovered:=true }::older)/\w'=(w.alloc (.cells #[.int .i64 n] 137)).setCell p (.int .i64 n):=by
 refine callsD_of_wpS Tryz.func57 rfl fun c₀ cs hu=>?_;have hta:(Instr.typeAssert (Value.iface 137 (Value.agg #[Value.int IntKind.i64 n])) 20 137 true).run Tryz.prog w=.ok (.tuple #[.agg #[.int .i64 n],.bool true]) w:=by kernel_rfl
 have hlt:p.block<w.heap.size:=by
  unfold World.cell? at hc
  split at hc
  · rename_i h;exact(Array.getElem?_eq_some_iff.1 h).1
  all_goals cases hc
 have hbb:(w.alloc (.cells #[.int .i64 n] 137)).heap[p.block]?=w.heap[p.block]?:=by
  show(w.heap.push _)[p.block]?=_
  rw[Array.getElem?_push,if_neg (by omega)]
 have h1:(w.alloc (.cells #[.int .i64 n] 137)).cell? ⟨w.heap.size,0,none⟩=some (.int .i64 n):=by rw[World.cell?_alloc_mark];rfl
 have h2:(w.alloc (.cells #[.int .i64 n] 137)).cell? p=some (.int .i64 x):=(World.cell?_of_block hbb).trans hc;have h3:(w.alloc (.cells #[.int .i64 n] 137)).frozen? p=false:=by unfold World.frozen? at hz ⊢; rw[hbb];exact hz
 apply wpS_seq
 apply wpS_region
 simp[wpOpsS,go_sem,recoverD,hu,Tryz.ntmps57,Exit.thenS,hta]
 apply wpS_seq
 apply wpS_region
 simp[wpOpsS,go_sem,Exit.thenS]
 refine wpS_cond (t:=true) (by simp[Act.eval,Array.replicate]) ?_;simp only[if_true]
 apply wpS_region
 simp[wpOpsS,go_sem,h1,h2,h3,bodyPostS,results,Tryz.results57]
set_option maxRecDepth 100000 in
theorem catchM_idle (p:Addr) (w:World):CallsD Tryz.prog 57 #[.pointer (some p)] .returning w fun e u' w'=>e=.returned (.tuple #[])/\u'=.returning/\w'=w.alloc (.cells #[.int .i64 0] 137):=by
 refine callsD_of_wpS Tryz.func57 rfl fun c₀ cs hu=>?_;have hta:(Instr.typeAssert Value.nilIface 20 137 true).run Tryz.prog w=.ok (.tuple #[.agg #[.int .i64 0],.bool false]) w:=by kernel_rfl
 apply wpS_seq
 apply wpS_region
 simp[wpOpsS,go_sem,recoverD,hu,Tryz.ntmps57,Exit.thenS,hta]
 apply wpS_seq
 apply wpS_region
 simp[wpOpsS,go_sem,Exit.thenS]
 refine wpS_cond (t:=false) (by simp[Act.eval,Array.replicate]) ?_;simp only[Bool.false_eq_true,if_false];refine wpS_of_wp (wp_skip ?_);cases c₀
 simp_all [bodyPostS,results,Tryz.results57]
set_option maxRecDepth 100000 in
theorem followM_any (f:FuncId) (m:P Mdl) (L:Lk) (w:World) (hf:∀(a:Array Value) (W:World),(callFunc f a).run Tryz.prog W=.ok (.enter f a) W) (ht:Toks w (some ⟨L.b,L.o,none⟩) L.m L.l) (hgd:Gd L.l) (hfew:L.l.length<=30000) (hC:∀g W,Rd L g L.l W->Calls Tryz.prog f #[.pointer (some ⟨g,0,none⟩)] W (PE g (VR RMdl) (run m L.l) W)):Calls Tryz.prog 28 #[.func (.func f) #[] #[],.slice (some ⟨L.b,L.o,none⟩) L.m L.c] w (FO (VR RMdl) (.agg #[.string ⟨#[]⟩,.slice none 0 0,.slice none 0 0,.slice none 0 0]) (run m L.l) w):=by
 have HC:=hid hC;have HT:=hid ht;have HG:=hid hgd;have HF:=hid hfew;obtain⟨r,hr⟩:∃r,run m L.l=r:=⟨_,rfl⟩
 rw[hr] at HC ⊢;clear hC ht hgd hfew;have hmf:∀(fn:Fn) (first cap:Array Value) (w:World),(Instr.makeFunc fn first cap).run Tryz.prog w=.ok (.func fn first cap) w:=fun _ _ _ _=>rfl;go_enter_defers Tryz.func28,Tryz.ntmps28
 go_wp2_with fail;have hlb:L.b<w.heap.size:=by
  obtain⟨e1,e2,e3|⟨b',o',e,hlt,hc⟩⟩:=HT.out
  · have h1:=HG.out.ne;omega
  · cases e;exact hlt
 have z0:Box (w.alloc (.cells #[.string ⟨#[]⟩,.slice none 0 0,.slice none 0 0,.slice none 0 0] 27)) w.heap.size 27 #[.string ⟨#[]⟩,.slice none 0 0,.slice none 0 0,.slice none 0 0]:=Box.new;have n0:Box ((w.alloc (.cells #[.string ⟨#[]⟩,.slice none 0 0,.slice none 0 0,.slice none 0 0] 27)).alloc (.cells #[.int .i64 0] 3)) (w.heap.size+1) 3 #[.int .i64 0]:=by
  have h:=Box.new (w:=w.alloc (.cells #[.string ⟨#[]⟩,.slice none 0 0,.slice none 0 0,.slice none 0 0] 27)) (t:=3) (c:=#[.int .i64 0]);rwa [show(w.alloc (.cells #[.string ⟨#[]⟩,.slice none 0 0,.slice none 0 0,.slice none 0 0] 27)).heap.size=w.heap.size+1 by simp] at h
 have Z:=hid z0;have N:=hid n0;have hzl:=z0.lt;have hnl:=n0.lt;clear z0 n0;refine(HC.out (w.heap.size+1+1) _ (rd_new rfl (by simp) (by simp;omega) (HT.out.alloc.alloc) HG.out HF.out)).mono ?_;rintro e w1 h1;rcases h1.cases with⟨x1,u1,v1,r1,rfl,b1,V1⟩|⟨u1,r1,rfl,b1⟩
 · have Z1:=hid (box_at (w2:=w1) Z.out qe);have N1:=hid (box_at (w2:=w1) N.out qe);have B1:Hid (Eqv (fun k=>k<w.heap.size) w w1):=hid qe;have HK:=hid r1;obtain⟨c1,rfl,P1,rfl,k1⟩:=V1;have K1:Hid (OMdl (fun b=>w.heap.size+1<b) w1 x1 P1):=hid (k1.map (Nat.le_refl _) fun b hb hlt=>⟨by
    have hb':_<=b:=hb;simp at hb'
    show w.heap.size+1<b
    omega,rfl⟩)
   dsimp only [cMdl];clear b1 h1 r1 k1 Z N;have y0:World.cell? _ ⟨_,0,none⟩=some (.string ⟨#[]⟩):=Z1.out.get rfl;have y1:World.cell? _ ⟨_,1,none⟩=some (.slice none 0 0):=Z1.out.get rfl;have y2:World.cell? _ ⟨_,2,none⟩=some (.slice none 0 0):=Z1.out.get rfl;have y3:World.cell? _ ⟨_,3,none⟩=some (.slice none 0 0):=Z1.out.get rfl;have fz:∀i,World.frozen? _ ⟨_,i,none⟩=false:=fun i=>box_frz (i:=i) Z1.out;have q0:World.cell? _ ⟨_,0,none⟩=some (.int .i64 0):=N1.out.get rfl;have qz:∀i,World.frozen? _ ⟨_,i,none⟩=false:=fun i=>box_frz (i:=i) N1.out;go_wp2_with fail;refine leaves_cons (f:=57) (args:=#[.pointer (some ⟨w.heap.size+1,0,none⟩)]) (by simp) (by simp[go_sem]) ?_;refine(catchM_idle _ _).mono ?_;rintro e u' w'' ⟨rfl,rfl,rfl⟩;have BB:=B1.out;refine⟨_,res_row_cell_tmp rfl _ _ w.heap.size (w.heap.size+1) 27 (cMdl x1 P1) (0,0) _ (.int .i64 0) rfl rfl ?_ (load_int ?_) Tryz.underlying27 rfl (by kernel_rfl),?_⟩
   · exact box_at (box_set4 Z1.out rfl) qe
   · have N4:=box_set (i:=0) (v:=.int .i64 0) (box_at (w2:=((((w1.setCell ⟨w.heap.size,0,none⟩ (.string x1.nm)).setCell ⟨w.heap.size,1,none⟩ (.slice P1.pap P1.pam P1.pac)).setCell ⟨w.heap.size,2,none⟩ (.slice P1.sip P1.sim P1.sic)).setCell ⟨w.heap.size,3,none⟩ (.slice P1.lip P1.lim P1.lic))) N1.out qe);exact(box_at N4 qe).get (r:=0) rfl
   · have q:∀W,Eqv (fun b=>w.heap.size+1<b) w1 W->OMdl (fun b=>w.heap.size<=b) W x1 P1:=fun W q=>K1.out.map q.size (fun b hb hlt=>⟨by show w.heap.size<=b;have hb':w.heap.size+1<b:=hb;omega,q.block b hlt hb⟩);exact FO.ok HK.out (eqv_below qe) ⟨_,rfl,P1,rfl,q _ qe⟩
 · have Z1:=hid (box_at (w2:=w1) Z.out qe);have N1:=hid (box_at (w2:=w1) N.out qe);have B1:Hid (Eqv (fun k=>k<w.heap.size) w w1):=hid qe;have HK:=hid r1;clear b1 h1 r1 Z N;go_wp2_with fail;refine leaves_cons (f:=57) (args:=#[.pointer (some ⟨w.heap.size+1,0,none⟩)]) (by simp) (by simp[go_sem]) ?_;refine(catchM_pan _ 0 (hd u1).l [] _ (N1.out.get rfl) (box_frz N1.out)).mono ?_;rintro e u' w'' ⟨rfl,rfl,rfl⟩;refine⟨_,res_row_cell_tmp rfl _ _ w.heap.size (w.heap.size+1) 27 #[.string ⟨#[]⟩,.slice none 0 0,.slice none 0 0,.slice none 0 0] (0,0) _ (.int .i64 (hd u1).l) rfl rfl ?_ (load_int ?_) Tryz.underlying27 rfl (by kernel_rfl),?_⟩
   · exact box_at Z1.out qe
   · refine(box_set (i:=0) (v:=.int .i64 (hd u1).l) (box_at N1.out ?_)).get (r:=0) rfl;exact qe
   · exact FO.no HK.out (eqv_below (by have BB:=B1.out;exact qe))
end Go.Proofs.YtbgodajefaahdaaGreatDoor.Ps
