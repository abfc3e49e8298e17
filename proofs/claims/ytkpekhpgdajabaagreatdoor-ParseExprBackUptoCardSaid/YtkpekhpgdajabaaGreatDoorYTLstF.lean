/-
  Parts of this proof: The contract of listed. The contracts of checkStore, checkBelt and of th.
-/
import Derived.Test.YtkpekhpgdajabaaGreatDoorYTRow
import Derived.Test.YtkpekhpgdajabaaGreatDoorYTSz
import Derived.Test.YtkpekhpgdajabaaGreatDoorYEWalk
open Nat renaming le_refl->ae
set_option linter.unusedVariables false
set_option maxHeartbeats 4000000
open Go.Lib (hid)
namespace Go.Proofs.YtkpekhpgdajabaaGreatDoor
namespace Ps
open Ps.P (exp)
open Go.RowKit
open Lx (Tk)
open Md (bU g_ dE gW Cy eO)
theorem zX:g_ 2 dE:=by intro G w x c h;exact h.is
structure aeg (L:Lk) (g:Nat) (r:R (List eO)) (m:P eO) (N:Nat) (w:World) (k:Nat) (v:Value) (wr:World):Prop where
 ex:∃l u,run (wY m k l) u=r/\u.length<k/\u.length<=N/\l.length+u.length<=30000/\bZ 247 2 dE (fun b=>w.heap.size<=b) wr v l/\Rd L g u wr
 bt:Bt g w wr
section
variable {L:Lk} {g:Nat} {t:List Tk}
set_option maxRecDepth 100000 in
theorem aj2 (f:FuncId) (m:P eO) (hm:Dn 1 m) (w:World) (hR:Rd L g t w) (hf:∀(a:Array Value) (W:World),(callFunc f a).run Tryz.prog W=.ok (.enter f a) W)
 (hC:∀W u,Rd L g u W->u.length<=t.length->Calls Tryz.prog f #[.pointer (some ⟨g,0,none⟩)] W (PO L g (VC gW) (run m u) W)):Calls Tryz.prog 196 #[.pointer (some ⟨g,0,none⟩),.func (.func f) #[] #[]] w (PO L g (VL 2 dE) (run (AZ m) t) w):=by
 have HD:Hid (∀u,run (exp fU) t=.ok () u->u.length<=t.length):=hid (fun u h=>by have:=((Dn.exp bR:Dn 1 (exp fU)).out hR.gd h).2;omega);have ht:=hR.small;have HC:=hid hC;have HM:=hid hm;clear hC hm;refine eQ hR ?_;clear hR;intro r HS HR HB hg;go_enter Tryz.func196,Tryz.ntmps196;go_wp2_with fail;refine po HS HB (gI _ _ (HR.out.low qe) bR) ?_;clear HS HB HR;rintro x1 u1 v1 w1 r1 HS b1 rfl HR HB;have HT:=hid (HD.out _ r1);clear b1 r1 HD;go_wp2_with fail;go_loopg [5] FU (aeg L g r m t.length w)
 case atStart=>
  exact UM
 case round=>
  obtain⟨⟨l,u,hs,hk,hn,hl,ho,hR⟩,hb⟩:=hrel;clear HS HB HR HT;obtain⟨k,rfl⟩:∃k,gk=k+1:=⟨gk-1,by omega⟩
  rw[LX] at hs;have HL:=hid hl;have HK:=hid hk;have HN:=hid hn;have HO:=hid ho;have HR:=hid hR;have HB:=hid hb;have HS:=hid hs;have Am:=hid hR.gd;clear hl hk hn ho hR hb hs;go_wp2_with fail;refine ac HS HB (dD jN _ (HR.out.low qe) bR) ?_ ?_
  · clear HS HB HR;rintro w2-HS b2 HR HB;have o2:bZ 247 2 dE (fun b=>w.heap.size<=b) w2 u5 l:=HO.out.up dE.map (b2.mono fun k _ hk=>by have:w.heap.size<=k:=hk;omega) (ae _);obtain⟨p,c,rfl,hrw⟩:=o2.rw dE.map zX nT;exact UN
  · clear HS HB HR;rintro w2-HS b2 HR HB;have o2:bZ 247 2 dE (fun b=>w.heap.size<=b) w2 u5 l:=HO.out.up dE.map (b2.mono fun k _ hk=>by have:w.heap.size<=k:=hk;omega) (ae _);replace HO:=hid o2;clear b2 o2;have hlen:∃p c,u5=.slice p l.length c:=by
     obtain⟨p,c,h,-⟩:=HO.out.rw dE.map zX nT;exact⟨p,c,h⟩
    obtain⟨p5,c5,rfl⟩:=hlen;have hlm:l.length<=30000:=by have:=HL.out;omega
    cases l with
    | nil=>
     dsimp only [CQ] at HS;have mM:Hid (∀x v,run m u=.ok x v->v.length+1<=u.length):=hid fun x v h=>(HM.out.out Am.out h).2;go_wp2_with fail;refine po HS HB (HC.out _ _ (HR.out.low qe) HN.out) ?_;clear HS HR;rintro x3 u3 v3 w3 r3 HS b3 V3 HR B3;have oD:=hid (mM.out _ _ r3);have s2:=HB.out.size;have s3:=b3.size;have o3:bZ 247 2 dE (fun b=>w.heap.size<=b) w3 (.slice p5 0 c5) []:=HO.out.up dE.map (b3.mono fun k _ hk=>by have:w.heap.size<=k:=hk;omega) (ae _);obtain rfl:v3=.agg (gW x3):=V3;have HY:Hid ((∀b,(Value.slice p5 0 c5).ownBlock=some b->w.heap.size<=b)->dE (fun b=>w.heap.size<=b/\¬(Value.slice p5 0 c5).ownBlock=some b) (w3.alloc (.cells (gW x3) 247)) x3 (gW x3)):=hid fun _=>rfl;dsimp only [gW] at HY ⊢;replace HO:=hid o3;replace HB:=B3;clear b3 r3 o3 mM;have o4:bZ 247 2 dE (fun b=>w.heap.size<=b) (w3.alloc (.cells (gW x3) 247)) (.slice p5 0 c5) []:=HO.out.up dE.map qe (ae _);have c4:bU (w3.alloc (.cells (gW x3) 247)) w3.heap.size 247 (gW x3):=bU.new;obtain⟨v5,w5,hrun,o5,hg5⟩:=o4.app Cy dE.map zX c4.cell (x:=x3) (HY.out o4.blk) cK;have B5:Hid (Bt g w w5):=hid (bS.grown qh hg5 fun b hb=>.inl (o4.blk b hb));have R5:Hid (Rd L g u3 w5):=hid (HR.out.low (bS.grown qe hg5 fun b hb=>.inr BL));have O5:Hid (bZ 247 2 dE (fun b=>w.heap.size<=b) w5 v5 [x3]):=hid (o5.map dE.map (ae _) fun b hb _=>⟨by
      rcases hb with hb|hb
      · exact hb
      · have e:(w3.alloc (.cells (gW x3) 247)).heap.size=w3.heap.size+1:=by simp
        omega,rfl⟩)
     dsimp only [gW] at hrun;exact UI
    | cons y l=>
     dsimp only [CQ] at HS;have uh:Hid (∀v,run (exp ry) u=.ok () v->Gd v/\v.length+1<=u.length):=hid fun v h=>(Dn.exp bR:Dn 1 (exp ry)).out Am.out h;have hpos:decide ((0:Int)<(((y::l).length:Nat):Int))=true:=decide_eq_true UF;go_wp2_with fail;refine po HS HB (gI _ _ (HR.out.low qe) bR) ?_;clear HS HR;rintro x3 u3 v3 w3 r3 HS b3 rfl HR B3;have BP:=hid (uh.out _ r3);have mM:Hid (∀x v,run m u3=.ok x v->v.length+1<=u3.length):=hid fun x v h=>(HM.out.out BP.out.1 h).2;have s2:=HB.out.size;have s3:=b3.size;have o3:bZ 247 2 dE (fun b=>w.heap.size<=b) w3 (.slice p5 (y::l).length c5) (y::l):=HO.out.up dE.map (b3.mono fun k _ hk=>by have:w.heap.size<=k:=hk;omega) (ae _);replace HO:=hid o3;replace HB:=B3;clear b3 r3 o3 uh;go_wp2_with fail;refine po HS HB (HC.out _ _ (HR.out.low qe) UG) ?_;clear HS HB HR;rintro x4 u4 v4 w4 r4 HS b4 V4 HR HB;have oD:=hid (mM.out _ _ r4);have s4:=b4.size;have xh:bZ 247 2 dE (fun b=>w.heap.size<=b) w4 (.slice p5 (y::l).length c5) (y::l):=HO.out.up dE.map (b4.mono fun k _ hk=>by have:w.heap.size<=k:=hk;omega) (ae _);obtain rfl:v4=.agg (gW x4):=V4;have HY:Hid ((∀b,(Value.slice p5 (y::l).length c5).ownBlock=some b->w.heap.size<=b)->dE (fun b=>w.heap.size<=b/\¬(Value.slice p5 (y::l).length c5).ownBlock=some b) (w4.alloc (.cells (gW x4) 247)) x4 (gW x4)):=hid fun _=>rfl;dsimp only [gW] at HY ⊢;replace HO:=hid xh;clear b4 r4 xh mM;have o4:bZ 247 2 dE (fun b=>w.heap.size<=b) (w4.alloc (.cells (gW x4) 247)) (.slice p5 (y::l).length c5) (y::l):=HO.out.up dE.map qe (ae _);have Et:bU (w4.alloc (.cells (gW x4) 247)) w4.heap.size 247 (gW x4):=bU.new;obtain⟨v5,w5,hrun,o5,hg5⟩:=o4.app Cy dE.map zX Et.cell (x:=x4) (HY.out o4.blk) bT;have B5:Hid (Bt g w w5):=hid (bS.grown qh hg5 fun b hb=>.inl (o4.blk b hb));have R5:Hid (Rd L g u4 w5):=hid (HR.out.low (bS.grown qe hg5 fun b hb=>.inr BL));have O5:Hid (bZ 247 2 dE (fun b=>w.heap.size<=b) w5 v5 ((y::l)++[x4])):=hid (o5.map dE.map (ae _) fun b hb _=>⟨by
      rcases hb with hb|hb
      · exact hb
      · have e:(w4.alloc (.cells (gW x4) 247)).heap.size=w4.heap.size+1:=by simp
        omega,rfl⟩)
     dsimp only [gW] at hrun;exact UH
end
end Ps
namespace Md
open Go.RowKit Go.Maps
open Ex (Gives)
attribute [local go_sem] Kh afC afD J_ ae8 ae9
theorem Ug {p:Prop} (h:p:=by
 go_enter Tryz.func136,Tryz.ntmps136;exact UC
 ):p:=h
theorem Uh {p:Prop} (h:p:=by
 rw[show z_ x=0 by unfold z_;rw[hr,h];rfl];clear hr;exact Ug
 ):p:=h
theorem agd (x:jP) (w:World):Calls Tryz.prog 136 #[.agg (lQ x)] w (Gives (.int .i64 (z_ x)) w):=by
 obtain⟨r,hr⟩:∃r,iy 1 x.rm 1000=r:=⟨_,rfl⟩
 have CB:=hid (fun W=>BZ hr W)
 cases r with
 | false=>
  rw[show z_ x=2 by unfold z_;rw[hr];rfl];clear hr;exact Ug
 | true=>
  rcases TB x.po with h|h|h|⟨e1,e2,e3,h1,h2,h3⟩
  · exact Uh
  · exact Uh
  · exact Uh
  · rw[show z_ x=1 by
     have:iy 1 x.po 3=false:=by
      unfold iy;by_cases a:1<=x.po
      · rw[decide_eq_true a,decide_eq_false bT];rfl
      · rw[decide_eq_false a];rfl
     unfold z_;rw[hr,this];rfl]
    have n1:(x.po != 1)=true:=bne_iff_ne.2 h1;have n2:(x.po != 2)=true:=bne_iff_ne.2 h2;have n3:(x.po != 3)=true:=bne_iff_ne.2 h3;clear hr e1 e2 e3 h1 h2 h3;exact Ug
theorem acU {p:Prop} (h:p:=by
 clear hr hs;go_enter Tryz.func139,Tryz.ntmps139;go_wp2_with fail;refine(CB.out _).mono ?_;rintro e w2 ⟨rfl,rfl⟩;go_wp2_with fail;refine(CC.out _).mono ?_;rintro e w2 ⟨rfl,rfl⟩;exact dX
 ):p:=h
theorem af2 (x:jO) (w:World):Calls Tryz.prog 139 #[.agg (lN x)] w (Gives (.int .i64 (zl x)) w):=by
 obtain⟨r,hr⟩:∃r,iy 1 x.ln 1000=r:=⟨_,rfl⟩
 obtain⟨s,hs⟩:∃r,iy 1 x.sp 1000=r:=⟨_,rfl⟩
 have CB:=hid (fun W=>BZ hr W);have CC:=hid (fun W=>BZ hs W)
 cases r with
 | false=>
  rw[show zl x=2 by unfold zl;rw[hr];rfl];clear hr hs;go_enter Tryz.func139,Tryz.ntmps139;exact UC
 | true=>
  cases s with
  | false=>
   rw[show zl x=2 by unfold zl;rw[hr,hs];rfl];exact acU
  | true=>
   rw[show zl x=0 by unfold zl;rw[hr,hs];rfl];exact acU
end Md
end Go.Proofs.YtkpekhpgdajabaaGreatDoor
