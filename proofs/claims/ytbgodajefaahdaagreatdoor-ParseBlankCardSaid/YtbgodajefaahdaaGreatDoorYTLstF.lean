/-
  Parts of this proof: The contract of listed.
-/
import Derived.Test.YtbgodajefaahdaaGreatDoorYTSum
open Nat renaming le_refl->ae
open Go.Lib renaming hid->af
set_option linter.unusedVariables false
open Go.Lib (hid)
namespace Go.Proofs.YtbgodajefaahdaaGreatDoor
namespace Ps
open Ps.P (exp)
open Go.RowKit
open Lx (Tk)
open Md (bT iH dH gI ED d_)
set_option maxHeartbeats 1000000
theorem Bj:iH 2 dH:=by intro G w x c h;exact h.is
structure ah5 (L:Lk) (g:Nat) (r:R (List d_)) (m:P d_) (N:Nat) (w:World) (k:Nat) (v:Value) (wr:World):Prop where
 ex:∃l u,run (xq m k l) u=r/\u.length<k/\u.length<=N/\l.length+u.length<=30000/\bZ 179 2 dH (fun b=>w.heap.size<=b) wr v l/\Rd L g u wr
 bt:Bt g w wr
section
variable {L:Lk} {g:Nat} {t:List Tk}
theorem QR {p:Prop} (h:p:=by
 have bU:=HB.out;go_wp2_with fail;exact⟨rfl,PO.no (dJ HS (by assumption)) qe⟩
 ):p:=h
set_option maxRecDepth 100000 in
theorem an6 (f:FuncId) (m:P d_) (hm:Dn 1 m) (w:World) (hR:Rd L g t w) (hf:∀(a:Array Value) (W:World),(callFunc f a).run Tryz.prog W=.ok (.enter f a) W)
 (hC:∀W u,Rd L g u W->u.length<=t.length->Calls Tryz.prog f #[.pointer (some ⟨g,0,none⟩)] W (PO L g (VC gI) (run m u) W)):Calls Tryz.prog 182 #[.pointer (some ⟨g,0,none⟩),.func (.func f) #[] #[]] w (PO L g (VL 2 dH) (run (xu m) t) w):=by
 have HD:Hid (∀u,run (exp mY) t=.ok () u->u.length<=t.length):=af (fun u h=>by have:=((Dn.exp (by decide):Dn 1 (exp mY)).out hR.gd h).2;omega);have ht:=hR.small;have HC:=af hC;have HM:=af hm;clear hC hm;obtain⟨r,hr⟩:∃r,run (xu m) t=r:=⟨_,rfl⟩
 rw[hr];have HS:=af hr;have hg:=hR.blk;have HR:=af hR;have HB:Hid (Bt g w w):=af (bR.refl _ _);clear hR hr;go_enter Tryz.func182,Tryz.ntmps182;go_wp2_with fail;refine(gW _ _ (HR.out.low qe) (by decide)).mono ?_;rintro e w1 h1;rcases h1.cases with⟨x1,u1,v1,r1,rfl,b1,V1,R1⟩|⟨u1,r1,rfl,b1⟩
 rotate_left 1
 · exact QR
 have HT:=af (HD.out _ r1);replace HS:=bY HS r1;replace HB:Hid (Bt g w w1):=af qh;replace HR:=af R1;clear b1 R1;clear r1 h1 HD;obtain rfl:=V1;go_wp2_with fail;go_loopg [5] FU (ah5 L g r m t.length w)
 case atStart=>
  have h1:=HT.out;exact⟨⟨[],u1,HS.out,by unfold FU;omega,h1,by simp;omega,bZ.nil,(HR.out.low qe)⟩,by have bU:=HB.out;exact qe⟩
 case round=>
  obtain⟨⟨l,u,hs,hk,hn,hl,ho,hR⟩,hb⟩:=hrel;clear HS HB HR HT;obtain⟨k,rfl⟩:∃k,gk=k+1:=⟨gk-1,by omega⟩
  rw[OZ] at hs;have HL:=af hl;have HK:=af hk;have HN:=af hn;have HO:=af ho;have HR:=af hR;have HB:=af hb;have HS:=af hs;have BN:=af hR.gd;clear hl hk hn ho hR hb hs;go_wp2_with fail;refine(dL yU _ (HR.out.low qe) (by decide)).mono ?_;rintro e w2 ⟨b2,⟨i2,rfl,R2⟩|⟨i2,rfl,R2⟩⟩
  · have o2:bZ 179 2 dH (fun b=>w.heap.size<=b) w2 u5 l:=HO.out.up dH.map (b2.mono fun k _ hk=>by have:w.heap.size<=k:=hk;omega) (ae _);obtain⟨p,c,rfl,hrw⟩:=o2.rw dH.map Bj (by have:=HL.out;omega);have HW:=af hrw;replace HS:=dY HS i2;replace HB:Hid (Bt g w w2):=af qh;replace HR:=af R2;clear b2 R2;clear i2 o2 hrw HO;go_wp2_with fail;go_ret;exact PO.ok (dA HS) HB.out ⟨p,_,c,rfl,HW.out⟩ HR.out
  · have o2:bZ 179 2 dH (fun b=>w.heap.size<=b) w2 u5 l:=HO.out.up dH.map (b2.mono fun k _ hk=>by have:w.heap.size<=k:=hk;omega) (ae _);replace HO:=af o2;replace HS:=dX HS i2;replace HB:Hid (Bt g w w2):=af qh;replace HR:=af R2;clear b2 R2;clear i2 o2;have hlen:∃p c,u5=.slice p l.length c:=by
     obtain⟨p,c,h,-⟩:=HO.out.rw dH.map Bj (by have:=HL.out;omega);exact⟨p,c,h⟩
    obtain⟨p5,c5,rfl⟩:=hlen;have hlm:l.length<=30000:=by have:=HL.out;omega
    cases l with
    | nil=>
     dsimp only [EI] at HS;have n_:Hid (∀x v,run m u=.ok x v->v.length+1<=u.length):=af fun x v h=>(HM.out.out BN.out h).2;go_wp2_with fail;refine(HC.out _ _ (HR.out.low qe) HN.out).mono ?_;rintro e w3 h3;rcases h3.cases with⟨x3,u3,v3,r3,rfl,b3,V3,R3⟩|⟨u3,r3,rfl,b3⟩
     rotate_left 1
     · exact QR
     have mZ:=af (n_.out _ _ r3);replace HS:=bY HS r3;have s2:=HB.out.size;have s3:=b3.size;have o3:bZ 179 2 dH (fun b=>w.heap.size<=b) w3 (.slice p5 0 c5) []:=HO.out.up dH.map (b3.mono fun k _ hk=>by have:w.heap.size<=k:=hk;omega) (ae _);obtain rfl:v3=.agg (gI x3):=V3;have HY:Hid ((∀b,(Value.slice p5 0 c5).ownBlock=some b->w.heap.size<=b)->dH (fun b=>w.heap.size<=b/\¬(Value.slice p5 0 c5).ownBlock=some b) (w3.alloc (.cells (gI x3) 179)) x3 (gI x3)):=af fun _=>rfl;dsimp only [gI] at HY ⊢;replace HO:=af o3;replace HB:Hid (Bt g w w3):=af qh;replace HR:=af R3;clear b3 R3;clear r3 h3 o3 n_;have o4:bZ 179 2 dH (fun b=>w.heap.size<=b) (w3.alloc (.cells (gI x3) 179)) (.slice p5 0 c5) []:=HO.out.up dH.map qe (ae _);have c4:bT (w3.alloc (.cells (gI x3) 179)) w3.heap.size 179 (gI x3):=bT.new;obtain⟨v5,w5,hrun,o5,hg5⟩:=o4.app ED dH.map Bj c4.cell (x:=x3) (HY.out o4.blk) (by simp);have B5:Hid (Bt g w w5):=af (bR.grown qh hg5 fun b hb=>.inl (o4.blk b hb));have R5:Hid (Rd L g u3 w5):=af (HR.out.low (bR.grown qe hg5 fun b hb=>.inr (by have:=o4.blk b hb;show ¬b<=g;omega)));have O5:Hid (bZ 179 2 dH (fun b=>w.heap.size<=b) w5 v5 [x3]):=af (o5.map dH.map (ae _) fun b hb _=>⟨by
      rcases hb with hb|hb
      · exact hb
      · have e:(w3.alloc (.cells (gI x3) 179)).heap.size=w3.heap.size+1:=by simp
        omega,rfl⟩)
     dsimp only [gI] at hrun;clear o4 c4 o5 hg5 HB HR HO HY;go_wp2_with (at_builtin;refine Lib.wpList_append_run _ rfl _ _ _ _ rfl _ _ rfl rfl _ _ hrun ?_)
     go_roundg k
     case measure=>omega
     case rel=>
      have h1:=mZ.out;have h2:=HK.out;have h3:=HN.out;have h4:=HL.out;exact⟨⟨_,u3,HS.out,by omega,by omega,by simp at h4 ⊢; omega,O5.out,R5.out⟩,B5.out⟩
    | cons y l=>
     dsimp only [EI] at HS;have wo:Hid (∀v,run (exp yS) u=.ok () v->Gd v/\v.length+1<=u.length):=af fun v h=>(Dn.exp (by decide):Dn 1 (exp yS)).out BN.out h;have hpos:decide ((0:Int)<(((y::l).length:Nat):Int))=true:=decide_eq_true (by have h:0<(y::l).length:=Nat.zero_lt_succ _;omega);go_wp2_with fail;refine(gW _ _ (HR.out.low qe) (by decide)).mono ?_;rintro e w3 h3;rcases h3.cases with⟨x3,u3,v3,r3,rfl,b3,V3,R3⟩|⟨u3,r3,rfl,b3⟩
     rotate_left 1
     · exact QR
     have xN:=af (wo.out _ r3);have n_:Hid (∀x v,run m u3=.ok x v->v.length+1<=u3.length):=af fun x v h=>(HM.out.out xN.out.1 h).2;replace HS:=bY HS r3;have s2:=HB.out.size;have s3:=b3.size;have o3:bZ 179 2 dH (fun b=>w.heap.size<=b) w3 (.slice p5 (y::l).length c5) (y::l):=HO.out.up dH.map (b3.mono fun k _ hk=>by have:w.heap.size<=k:=hk;omega) (ae _);replace HO:=af o3;replace HB:Hid (Bt g w w3):=af qh;replace HR:=af R3;clear b3 R3;clear r3 h3 o3 wo;obtain rfl:=V3;go_wp2_with fail;refine(HC.out _ _ (HR.out.low qe) (by have h1:=xN.out.2;have h2:=HN.out;omega)).mono ?_;rintro e w4 h4;rcases h4.cases with⟨x4,u4,v4,r4,rfl,b4,V4,R4⟩|⟨u4,r4,rfl,b4⟩
     rotate_left 1
     · exact QR
     have mZ:=af (n_.out _ _ r4);replace HS:=bY HS r4;have s4:=b4.size;have yC:bZ 179 2 dH (fun b=>w.heap.size<=b) w4 (.slice p5 (y::l).length c5) (y::l):=HO.out.up dH.map (b4.mono fun k _ hk=>by have:w.heap.size<=k:=hk;omega) (ae _);obtain rfl:v4=.agg (gI x4):=V4;have HY:Hid ((∀b,(Value.slice p5 (y::l).length c5).ownBlock=some b->w.heap.size<=b)->dH (fun b=>w.heap.size<=b/\¬(Value.slice p5 (y::l).length c5).ownBlock=some b) (w4.alloc (.cells (gI x4) 179)) x4 (gI x4)):=af fun _=>rfl;dsimp only [gI] at HY ⊢;replace HO:=af yC;replace HB:Hid (Bt g w w4):=af qh;replace HR:=af R4;clear b4 R4;clear r4 h4 yC n_;have o4:bZ 179 2 dH (fun b=>w.heap.size<=b) (w4.alloc (.cells (gI x4) 179)) (.slice p5 (y::l).length c5) (y::l):=HO.out.up dH.map qe (ae _);have ze:bT (w4.alloc (.cells (gI x4) 179)) w4.heap.size 179 (gI x4):=bT.new;obtain⟨v5,w5,hrun,o5,hg5⟩:=o4.app ED dH.map Bj ze.cell (x:=x4) (HY.out o4.blk) (by omega);have B5:Hid (Bt g w w5):=af (bR.grown qh hg5 fun b hb=>.inl (o4.blk b hb));have R5:Hid (Rd L g u4 w5):=af (HR.out.low (bR.grown qe hg5 fun b hb=>.inr (by have:=o4.blk b hb;show ¬b<=g;omega)));have O5:Hid (bZ 179 2 dH (fun b=>w.heap.size<=b) w5 v5 ((y::l)++[x4])):=af (o5.map dH.map (ae _) fun b hb _=>⟨by
      rcases hb with hb|hb
      · exact hb
      · have e:(w4.alloc (.cells (gI x4) 179)).heap.size=w4.heap.size+1:=by simp
        omega,rfl⟩)
     dsimp only [gI] at hrun;clear o4 ze o5 hg5 HB HR HO HY;go_wp2_with (at_builtin;refine Lib.wpList_append_run _ rfl _ _ _ _ rfl _ _ rfl rfl _ _ hrun ?_)
     go_roundg k
     case measure=>omega
     case rel=>
      have h0:=xN.out.2;have h1:=mZ.out;have h2:=HK.out;have h3:=HN.out;have h4:=HL.out;exact⟨⟨_,u4,HS.out,by omega,by omega,by simp at h4 ⊢; omega,O5.out,R5.out⟩,B5.out⟩
end
end Ps
end Go.Proofs.YtbgodajefaahdaaGreatDoor
