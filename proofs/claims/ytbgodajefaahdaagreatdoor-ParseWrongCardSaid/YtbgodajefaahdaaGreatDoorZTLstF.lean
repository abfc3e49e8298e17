/-
  Parts of this proof: The contract of listed.
-/
import Derived.Test.YtbgodajefaahdaaGreatDoorZTRow
import Derived.Test.YtbgodajefaahdaaGreatDoorZTSz
set_option linter.unusedVariables false
open Go.Lib (hid)
namespace Go.Proofs.YtbgodajefaahdaaGreatDoor.Ps
open Go.Proofs.YtbgodajefaahdaaGreatDoor.Ps.P (exp)
open Go.RowKit
open Go.Proofs.YtbgodajefaahdaaGreatDoor.Lx (Tk)
open Go.Proofs.YtbgodajefaahdaaGreatDoor.Md (Box Sized RFld cFld kFld Fld)
set_option maxHeartbeats 1000000
theorem sFld:Sized 2 RFld:=by intro G w x c h;exact h.is
structure LsFAt (L:Lk) (g:Nat) (r:R (List Fld)) (m:P Fld) (N:Nat) (w:World) (k:Nat) (v:Value) (wr:World):Prop where
 ex:∃l u,run (lsL m k l) u=r/\u.length<k/\u.length<=N/\l.length+u.length<=30000/\OwnF 179 2 RFld (fun b=>w.heap.size<=b) wr v l/\Rd L g u wr
 bt:Bt g w wr
section
variable {L:Lk} {g:Nat} {t:List Tk}
theorem zEI_0 {p:Prop} (h:p:=by
 have HBB:=HB.out;go_wp2_with fail;exact⟨rfl,PO.no (st_no HS (by assumption)) qe⟩
 ):p:=h
set_option maxRecDepth 100000 in
theorem listedF_any (f:FuncId) (m:P Fld) (hm:Dn 1 m) (w:World) (hR:Rd L g t w) (hf:∀(a:Array Value) (W:World),(callFunc f a).run Tryz.prog W=.ok (.enter f a) W)
 (hC:∀W u,Rd L g u W->u.length<=t.length->Calls Tryz.prog f #[.pointer (some ⟨g,0,none⟩)] W (PO L g (VC cFld) (run m u) W)):Calls Tryz.prog 182 #[.pointer (some ⟨g,0,none⟩),.func (.func f) #[] #[]] w (PO L g (VL 2 RFld) (run (lst m) t) w):=by
 have HD:Hid (∀u,run (exp zLpar) t=.ok () u->u.length<=t.length):=hid (fun u h=>by have:=((Dn.exp (by decide):Dn 1 (exp zLpar)).out hR.gd h).2;omega);have ht:=hR.small;have HC:=hid hC;have HM:=hid hm;clear hC hm;obtain⟨r,hr⟩:∃r,run (lst m) t=r:=⟨_,rfl⟩
 rw[hr];have HS:=hid hr;have hg:=hR.blk;have HR:=hid hR;have HB:Hid (Bt g w w):=hid (Eqv.refl _ _);clear hR hr;go_enter Tryz.func182,Tryz.ntmps182;go_wp2_with fail;refine(expect_any _ _ (HR.out.low qe) (by decide)).mono ?_;rintro e w1 h1;rcases h1.cases with⟨x1,u1,v1,r1,rfl,b1,V1,R1⟩|⟨u1,r1,rfl,b1⟩
 rotate_left 1
 · exact zEI_0
 have HT:=hid (HD.out _ r1);replace HS:=st_ok HS r1;replace HB:Hid (Bt g w w1):=hid qh;replace HR:=hid R1;clear b1 R1;clear r1 h1 HD;obtain rfl:=V1;go_wp2_with fail;go_loopg [5] FU (LsFAt L g r m t.length w)
 case atStart=>
  have h1:=HT.out;exact⟨⟨[],u1,HS.out,by unfold FU;omega,h1,by simp;omega,OwnF.nil,(HR.out.low qe)⟩,by have HBB:=HB.out;exact qe⟩
 case round=>
  obtain⟨⟨l,u,hs,hk,hn,hl,ho,hR⟩,hb⟩:=hrel;clear HS HB HR HT;obtain⟨k,rfl⟩:∃k,gk=k+1:=⟨gk-1,by omega⟩
  rw[lsL_succ] at hs;have HL:=hid hl;have HK:=hid hk;have HN:=hid hn;have HO:=hid ho;have HR:=hid hR;have HB:=hid hb;have HS:=hid hs;have HGD:=hid hR.gd;clear hl hk hn ho hR hb hs;go_wp2_with fail;refine(accept_any zRpar _ (HR.out.low qe) (by decide)).mono ?_;rintro e w2 ⟨b2,⟨i2,rfl,R2⟩|⟨i2,rfl,R2⟩⟩
  · have o2:OwnF 179 2 RFld (fun b=>w.heap.size<=b) w2 u5 l:=HO.out.up RFld.map (b2.mono fun k _ hk=>by have:w.heap.size<=k:=hk;omega) (Nat.le_refl _);obtain⟨p,c,rfl,hrw⟩:=o2.rw RFld.map sFld (by have:=HL.out;omega);have HW:=hid hrw;replace HS:=st_yes HS i2;replace HB:Hid (Bt g w w2):=hid qh;replace HR:=hid R2;clear b2 R2;clear i2 o2 hrw HO;go_wp2_with fail;go_ret;exact PO.ok (st_end HS) HB.out ⟨p,_,c,rfl,HW.out⟩ HR.out
  · have o2:OwnF 179 2 RFld (fun b=>w.heap.size<=b) w2 u5 l:=HO.out.up RFld.map (b2.mono fun k _ hk=>by have:w.heap.size<=k:=hk;omega) (Nat.le_refl _);replace HO:=hid o2;replace HS:=st_not HS i2;replace HB:Hid (Bt g w w2):=hid qh;replace HR:=hid R2;clear b2 R2;clear i2 o2;have hlen:∃p c,u5=.slice p l.length c:=by
     obtain⟨p,c,h,-⟩:=HO.out.rw RFld.map sFld (by have:=HL.out;omega);exact⟨p,c,h⟩
    obtain⟨p5,c5,rfl⟩:=hlen;have hlm:l.length<=30000:=by have:=HL.out;omega
    cases l with
    | nil=>
     dsimp only [lsN] at HS;have HDD:Hid (∀x v,run m u=.ok x v->v.length+1<=u.length):=hid fun x v h=>(HM.out.out HGD.out h).2;go_wp2_with fail;refine(HC.out _ _ (HR.out.low qe) HN.out).mono ?_;rintro e w3 h3;rcases h3.cases with⟨x3,u3,v3,r3,rfl,b3,V3,R3⟩|⟨u3,r3,rfl,b3⟩
     rotate_left 1
     · exact zEI_0
     have HTT:=hid (HDD.out _ _ r3);replace HS:=st_ok HS r3;have s2:=HB.out.size;have s3:=b3.size;have o3:OwnF 179 2 RFld (fun b=>w.heap.size<=b) w3 (.slice p5 0 c5) []:=HO.out.up RFld.map (b3.mono fun k _ hk=>by have:w.heap.size<=k:=hk;omega) (Nat.le_refl _);obtain rfl:v3=.agg (cFld x3):=V3;have HY:Hid ((∀b,(Value.slice p5 0 c5).ownBlock=some b->w.heap.size<=b)->RFld (fun b=>w.heap.size<=b/\¬(Value.slice p5 0 c5).ownBlock=some b) (w3.alloc (.cells (cFld x3) 179)) x3 (cFld x3)):=hid fun _=>rfl;dsimp only [cFld] at HY ⊢;replace HO:=hid o3;replace HB:Hid (Bt g w w3):=hid qh;replace HR:=hid R3;clear b3 R3;clear r3 h3 o3 HDD;have o4:OwnF 179 2 RFld (fun b=>w.heap.size<=b) (w3.alloc (.cells (cFld x3) 179)) (.slice p5 0 c5) []:=HO.out.up RFld.map qe (Nat.le_refl _);have c4:Box (w3.alloc (.cells (cFld x3) 179)) w3.heap.size 179 (cFld x3):=Box.new;obtain⟨v5,w5,hrun,o5,hg5⟩:=o4.app kFld RFld.map sFld c4.cell (x:=x3) (HY.out o4.blk) (by simp);have B5:Hid (Bt g w w5):=hid (Eqv.grown qh hg5 fun b hb=>.inl (o4.blk b hb));have R5:Hid (Rd L g u3 w5):=hid (HR.out.low (Eqv.grown qe hg5 fun b hb=>.inr (by have:=o4.blk b hb;show ¬b<=g;omega)));have O5:Hid (OwnF 179 2 RFld (fun b=>w.heap.size<=b) w5 v5 [x3]):=hid (o5.map RFld.map (Nat.le_refl _) fun b hb _=>⟨by
      rcases hb with hb|hb
      · exact hb
      · have e:(w3.alloc (.cells (cFld x3) 179)).heap.size=w3.heap.size+1:=by simp
        omega,rfl⟩)
     dsimp only [cFld] at hrun;clear o4 c4 o5 hg5 HB HR HO HY;go_wp2_with (at_builtin;refine Lib.wpList_append_run _ rfl _ _ _ _ rfl _ _ rfl rfl _ _ hrun ?_)
     go_roundg k
     case measure=>omega
     case rel=>
      have h1:=HTT.out;have h2:=HK.out;have h3:=HN.out;have h4:=HL.out;exact⟨⟨_,u3,HS.out,by omega,by omega,by simp at h4 ⊢; omega,O5.out,R5.out⟩,B5.out⟩
    | cons y l=>
     dsimp only [lsN] at HS;have HDE:Hid (∀v,run (exp zComma) u=.ok () v->Gd v/\v.length+1<=u.length):=hid fun v h=>(Dn.exp (by decide):Dn 1 (exp zComma)).out HGD.out h;have hpos:decide ((0:Int)<(((y::l).length:Nat):Int))=true:=decide_eq_true (by have h:0<(y::l).length:=Nat.zero_lt_succ _;omega);go_wp2_with fail;refine(expect_any _ _ (HR.out.low qe) (by decide)).mono ?_;rintro e w3 h3;rcases h3.cases with⟨x3,u3,v3,r3,rfl,b3,V3,R3⟩|⟨u3,r3,rfl,b3⟩
     rotate_left 1
     · exact zEI_0
     have HTE:=hid (HDE.out _ r3);have HDD:Hid (∀x v,run m u3=.ok x v->v.length+1<=u3.length):=hid fun x v h=>(HM.out.out HTE.out.1 h).2;replace HS:=st_ok HS r3;have s2:=HB.out.size;have s3:=b3.size;have o3:OwnF 179 2 RFld (fun b=>w.heap.size<=b) w3 (.slice p5 (y::l).length c5) (y::l):=HO.out.up RFld.map (b3.mono fun k _ hk=>by have:w.heap.size<=k:=hk;omega) (Nat.le_refl _);replace HO:=hid o3;replace HB:Hid (Bt g w w3):=hid qh;replace HR:=hid R3;clear b3 R3;clear r3 h3 o3 HDE;obtain rfl:=V3;go_wp2_with fail;refine(HC.out _ _ (HR.out.low qe) (by have h1:=HTE.out.2;have h2:=HN.out;omega)).mono ?_;rintro e w4 h4;rcases h4.cases with⟨x4,u4,v4,r4,rfl,b4,V4,R4⟩|⟨u4,r4,rfl,b4⟩
     rotate_left 1
     · exact zEI_0
     have HTT:=hid (HDD.out _ _ r4);replace HS:=st_ok HS r4;have s4:=b4.size;have o4':OwnF 179 2 RFld (fun b=>w.heap.size<=b) w4 (.slice p5 (y::l).length c5) (y::l):=HO.out.up RFld.map (b4.mono fun k _ hk=>by have:w.heap.size<=k:=hk;omega) (Nat.le_refl _);obtain rfl:v4=.agg (cFld x4):=V4;have HY:Hid ((∀b,(Value.slice p5 (y::l).length c5).ownBlock=some b->w.heap.size<=b)->RFld (fun b=>w.heap.size<=b/\¬(Value.slice p5 (y::l).length c5).ownBlock=some b) (w4.alloc (.cells (cFld x4) 179)) x4 (cFld x4)):=hid fun _=>rfl;dsimp only [cFld] at HY ⊢;replace HO:=hid o4';replace HB:Hid (Bt g w w4):=hid qh;replace HR:=hid R4;clear b4 R4;clear r4 h4 o4' HDD;have o4:OwnF 179 2 RFld (fun b=>w.heap.size<=b) (w4.alloc (.cells (cFld x4) 179)) (.slice p5 (y::l).length c5) (y::l):=HO.out.up RFld.map qe (Nat.le_refl _);have c4':Box (w4.alloc (.cells (cFld x4) 179)) w4.heap.size 179 (cFld x4):=Box.new;obtain⟨v5,w5,hrun,o5,hg5⟩:=o4.app kFld RFld.map sFld c4'.cell (x:=x4) (HY.out o4.blk) (by omega);have B5:Hid (Bt g w w5):=hid (Eqv.grown qh hg5 fun b hb=>.inl (o4.blk b hb));have R5:Hid (Rd L g u4 w5):=hid (HR.out.low (Eqv.grown qe hg5 fun b hb=>.inr (by have:=o4.blk b hb;show ¬b<=g;omega)));have O5:Hid (OwnF 179 2 RFld (fun b=>w.heap.size<=b) w5 v5 ((y::l)++[x4])):=hid (o5.map RFld.map (Nat.le_refl _) fun b hb _=>⟨by
      rcases hb with hb|hb
      · exact hb
      · have e:(w4.alloc (.cells (cFld x4) 179)).heap.size=w4.heap.size+1:=by simp
        omega,rfl⟩)
     dsimp only [cFld] at hrun;clear o4 c4' o5 hg5 HB HR HO HY;go_wp2_with (at_builtin;refine Lib.wpList_append_run _ rfl _ _ _ _ rfl _ _ rfl rfl _ _ hrun ?_)
     go_roundg k
     case measure=>omega
     case rel=>
      have h0:=HTE.out.2;have h1:=HTT.out;have h2:=HK.out;have h3:=HN.out;have h4:=HL.out;exact⟨⟨_,u4,HS.out,by omega,by omega,by simp at h4 ⊢; omega,O5.out,R5.out⟩,B5.out⟩
end
end Go.Proofs.YtbgodajefaahdaaGreatDoor.Ps
