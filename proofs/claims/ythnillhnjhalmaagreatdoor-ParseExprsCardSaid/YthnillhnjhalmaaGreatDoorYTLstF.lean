/-
  Parts of this proof: The contract of listed.
-/
import Derived.Test.YthnillhnjhalmaaGreatDoorYTXC
open Nat renaming le_refl->ae
set_option linter.unusedVariables false
set_option maxHeartbeats 1000000
open Go.Lib (hid)
namespace Go.Proofs.YthnillhnjhalmaaGreatDoor
namespace Ps
open Ps.P (exp)
open Go.RowKit
open Lx (Tk)
open Md (bX iC dI iy DV eZ)
theorem A9:iC 2 dI:=by intro G w x c h;exact h.is
structure afQ (L:Lk) (g:Nat) (r:R (List eZ)) (m:P eZ) (N:Nat) (w:World) (k:Nat) (v:Value) (wr:World):Prop where
 ex:∃l u,run (xQ m k l) u=r/\u.length<k/\u.length<=N/\l.length+u.length<=30000/\cu 239 2 dI (fun b=>w.heap.size<=b) wr v l/\Rd L g u wr
 bt:Bt g w wr
section
variable {L:Lk} {g:Nat} {t:List Tk}
set_option maxRecDepth 100000 in
theorem als (f:FuncId) (m:P eZ) (hm:Dn 1 m) (w:World) (hR:Rd L g t w) (hf:∀(a:Array Value) (W:World),(callFunc f a).run Tryz.prog W=.ok (.enter f a) W)
 (hC:∀W u,Rd L g u W->u.length<=t.length->Calls Tryz.prog f #[.pointer (some ⟨g,0,none⟩)] W (PO L g (VC iy) (run m u) W)):Calls Tryz.prog 213 #[.pointer (some ⟨g,0,none⟩),.func (.func f) #[] #[]] w (PO L g (VL 2 dI) (run (BQ m) t) w):=by
 have HD:Hid (∀u,run (exp fK) t=.ok () u->u.length<=t.length):=hid (fun u h=>by have:=((Dn.exp bS:Dn 1 (exp fK)).out hR.gd h).2;omega);have ht:=hR.small;have HC:=hid hC;have HM:=hid hm;clear hC hm;refine eD hR ?_;clear hR;intro r HS HR HB hg;go_enter Tryz.func213,Tryz.ntmps213;go_wp2_with fail;refine po HS HB (gX _ _ (HR.out.low qe) bS) ?_;clear HS HB HR;rintro x1 u1 v1 w1 r1 HS b1 rfl HR HB;have HT:=hid (HD.out _ r1);clear b1 r1 HD;go_wp2_with fail;go_loopg [5] FU (afQ L g r m t.length w)
 case atStart=>
  exact Wv
 case round=>
  obtain⟨⟨l,u,hs,hk,hn,hl,ho,hR⟩,hb⟩:=hrel;clear HS HB HR HT;obtain⟨k,rfl⟩:∃k,gk=k+1:=⟨gk-1,by omega⟩
  rw[Nl] at hs;have HL:=hid hl;have HK:=hid hk;have HN:=hid hn;have HO:=hid ho;have HR:=hid hR;have HB:=hid hb;have HS:=hid hs;have qA:=hid hR.gd;clear hl hk hn ho hR hb hs;go_wp2_with fail;refine ac HS HB (dH iG _ (HR.out.low qe) bS) ?_ ?_
  · clear HS HB HR;rintro w2-HS b2 HR HB;have o2:cu 239 2 dI (fun b=>w.heap.size<=b) w2 u5 l:=HO.out.up dI.map (b2.mono fun k _ hk=>by have:w.heap.size<=k:=hk;omega) (ae _);obtain⟨p,c,rfl,hrw⟩:=o2.rw dI.map A9 ou;exact Wx
  · clear HS HB HR;rintro w2-HS b2 HR HB;have o2:cu 239 2 dI (fun b=>w.heap.size<=b) w2 u5 l:=HO.out.up dI.map (b2.mono fun k _ hk=>by have:w.heap.size<=k:=hk;omega) (ae _);replace HO:=hid o2;clear b2 o2;have hlen:∃p c,u5=.slice p l.length c:=by
     obtain⟨p,c,h,-⟩:=HO.out.rw dI.map A9 ou;exact⟨p,c,h⟩
    obtain⟨p5,c5,rfl⟩:=hlen;have hlm:l.length<=30000:=by have:=HL.out;omega
    cases l with
    | nil=>
     dsimp only [Ea] at HS;have m_:Hid (∀x v,run m u=.ok x v->v.length+1<=u.length):=hid fun x v h=>(HM.out.out qA.out h).2;go_wp2_with fail;refine po HS HB (HC.out _ _ (HR.out.low qe) HN.out) ?_;clear HS HR;rintro x3 u3 v3 w3 r3 HS b3 V3 HR B3;have oO:=hid (m_.out _ _ r3);have s2:=HB.out.size;have s3:=b3.size;have o3:cu 239 2 dI (fun b=>w.heap.size<=b) w3 (.slice p5 0 c5) []:=HO.out.up dI.map (b3.mono fun k _ hk=>by have:w.heap.size<=k:=hk;omega) (ae _);obtain rfl:v3=.agg (iy x3):=V3;have HY:Hid ((∀b,(Value.slice p5 0 c5).ownBlock=some b->w.heap.size<=b)->dI (fun b=>w.heap.size<=b/\¬(Value.slice p5 0 c5).ownBlock=some b) (w3.alloc (.cells (iy x3) 239)) x3 (iy x3)):=hid fun _=>rfl;dsimp only [iy] at HY ⊢;replace HO:=hid o3;replace HB:=B3;clear b3 r3 o3 m_;have o4:cu 239 2 dI (fun b=>w.heap.size<=b) (w3.alloc (.cells (iy x3) 239)) (.slice p5 0 c5) []:=HO.out.up dI.map qe (ae _);have c4:bX (w3.alloc (.cells (iy x3) 239)) w3.heap.size 239 (iy x3):=bX.new;obtain⟨v5,w5,hrun,o5,hg5⟩:=o4.app DV dI.map A9 c4.cell (x:=x3) (HY.out o4.blk) cz;have B5:Hid (Bt g w w5):=hid (bT.grown qh hg5 fun b hb=>.inl (o4.blk b hb));have R5:Hid (Rd L g u3 w5):=hid (HR.out.low (bT.grown qe hg5 fun b hb=>.inr CL));have O5:Hid (cu 239 2 dI (fun b=>w.heap.size<=b) w5 v5 [x3]):=hid (o5.map dI.map (ae _) fun b hb _=>⟨by
      rcases hb with hb|hb
      · exact hb
      · have e:(w3.alloc (.cells (iy x3) 239)).heap.size=w3.heap.size+1:=by simp
        omega,rfl⟩)
     dsimp only [iy] at hrun;exact Wp
    | cons y l=>
     dsimp only [Ea] at HS;have vF:Hid (∀v,run (exp vC) u=.ok () v->Gd v/\v.length+1<=u.length):=hid fun v h=>(Dn.exp bS:Dn 1 (exp vC)).out qA.out h;have hpos:decide ((0:Int)<(((y::l).length:Nat):Int))=true:=decide_eq_true Wj;go_wp2_with fail;refine po HS HB (gX _ _ (HR.out.low qe) bS) ?_;clear HS HR;rintro x3 u3 v3 w3 r3 HS b3 rfl HR B3;have Dc:=hid (vF.out _ r3);have m_:Hid (∀x v,run m u3=.ok x v->v.length+1<=u3.length):=hid fun x v h=>(HM.out.out Dc.out.1 h).2;have s2:=HB.out.size;have s3:=b3.size;have o3:cu 239 2 dI (fun b=>w.heap.size<=b) w3 (.slice p5 (y::l).length c5) (y::l):=HO.out.up dI.map (b3.mono fun k _ hk=>by have:w.heap.size<=k:=hk;omega) (ae _);replace HO:=hid o3;replace HB:=B3;clear b3 r3 o3 vF;go_wp2_with fail;refine po HS HB (HC.out _ _ (HR.out.low qe) Wl) ?_;clear HS HB HR;rintro x4 u4 v4 w4 r4 HS b4 V4 HR HB;have oO:=hid (m_.out _ _ r4);have s4:=b4.size;have xY:cu 239 2 dI (fun b=>w.heap.size<=b) w4 (.slice p5 (y::l).length c5) (y::l):=HO.out.up dI.map (b4.mono fun k _ hk=>by have:w.heap.size<=k:=hk;omega) (ae _);obtain rfl:v4=.agg (iy x4):=V4;have HY:Hid ((∀b,(Value.slice p5 (y::l).length c5).ownBlock=some b->w.heap.size<=b)->dI (fun b=>w.heap.size<=b/\¬(Value.slice p5 (y::l).length c5).ownBlock=some b) (w4.alloc (.cells (iy x4) 239)) x4 (iy x4)):=hid fun _=>rfl;dsimp only [iy] at HY ⊢;replace HO:=hid xY;clear b4 r4 xY m_;have o4:cu 239 2 dI (fun b=>w.heap.size<=b) (w4.alloc (.cells (iy x4) 239)) (.slice p5 (y::l).length c5) (y::l):=HO.out.up dI.map qe (ae _);have Fx:bX (w4.alloc (.cells (iy x4) 239)) w4.heap.size 239 (iy x4):=bX.new;obtain⟨v5,w5,hrun,o5,hg5⟩:=o4.app DV dI.map A9 Fx.cell (x:=x4) (HY.out o4.blk) bU;have B5:Hid (Bt g w w5):=hid (bT.grown qh hg5 fun b hb=>.inl (o4.blk b hb));have R5:Hid (Rd L g u4 w5):=hid (HR.out.low (bT.grown qe hg5 fun b hb=>.inr CL));have O5:Hid (cu 239 2 dI (fun b=>w.heap.size<=b) w5 v5 ((y::l)++[x4])):=hid (o5.map dI.map (ae _) fun b hb _=>⟨by
      rcases hb with hb|hb
      · exact hb
      · have e:(w4.alloc (.cells (iy x4) 239)).heap.size=w4.heap.size+1:=by simp
        omega,rfl⟩)
     dsimp only [iy] at hrun;exact Wo
end
end Ps
end Go.Proofs.YthnillhnjhalmaaGreatDoor
