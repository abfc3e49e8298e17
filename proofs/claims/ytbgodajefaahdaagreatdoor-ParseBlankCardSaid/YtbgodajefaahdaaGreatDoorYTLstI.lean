/-
  Parts of this proof: The contract of listed. The contract of the reader's distribution. Statements as values that a rule makes. The contract of the reader's begin. The contracts of the reader's send and seize. A whole record goes into a block that was just m.
-/
import Derived.Test.YtbgodajefaahdaaGreatDoorYTSum
open Option renaming none->U,some->X
open Go.World renaming cell?->ae,setCell->ah,frozen?->ai
open Go.Lib renaming hid->V
open Nat renaming le_refl->af
open Go.Proofs.Tryz renaming prog->ag
open Go renaming World->aj,bodyPost_ret->ak,results_cell_row->au,Value->ax
open Go.RowKit renaming Hid->A
open Go.Value renaming oneCell'->av
set_option linter.unusedVariables false
open Go.Lib (hid)
namespace Go.Proofs.YtbgodajefaahdaaGreatDoor
namespace Ps
open Ps.P (exp)
open Go.RowKit
open Lx (Tk)
open Md (Rec fC bT Kind iH nC)
set_option maxHeartbeats 1000000
def dZ:Rec Int:=fun _ _ x c=>c=#[.int .i64 x]
theorem dZ.map:fC dZ:=by intro G H w w2 _ _ x c h;exact h
theorem zM:iH 1 dZ:=by intro G w x c h;subst h;exact⟨rfl,by simp[av]⟩
theorem OM:Kind 56 3 1:=nC Tryz.underlying56 (z:=.int .i64 0) (b:=8) (by kernel_rfl) (by decide) (by decide) (by decide)
structure ah6 (L:Lk) (g:Nat) (r:R (List Int)) (m:P Int) (N:Nat) (w:aj) (k:Nat) (v:ax) (wr:aj):Prop where
 ex:∃l u,run (xq m k l) u=r/\u.length<k/\u.length<=N/\l.length+u.length<=30000/\bZ 3 1 dZ (fun b=>w.heap.size<=b) wr v l/\Rd L g u wr
 bt:Bt g w wr
section
variable {L:Lk} {g:Nat} {t:List Tk}
theorem QC {p:Prop} (h:p:=by
 have bU:=HB.out;go_wp2_with fail;exact⟨rfl,PO.no (dJ HS (by assumption)) qe⟩
 ):p:=h
set_option maxRecDepth 100000 in
theorem an7 (f:FuncId) (m:P Int) (hm:Dn 1 m) (w:aj) (hR:Rd L g t w) (hf:∀(a:Array ax) (W:aj),(callFunc f a).run ag W=.ok (.enter f a) W)
 (hC:∀W u,Rd L g u W->u.length<=t.length->Calls ag f #[.pointer (X ⟨g,0,U⟩)] W (PO L g VI (run m u) W)):Calls ag 184 #[.pointer (X ⟨g,0,U⟩),.func (.func f) #[] #[]] w (PO L g (VL 1 dZ) (run (xu m) t) w):=by
 have HD:A (∀u,run (exp mY) t=.ok () u->u.length<=t.length):=V (fun u h=>by have:=((Dn.exp (by decide):Dn 1 (exp mY)).out hR.gd h).2;omega);have ht:=hR.small;have HC:=V hC;have HM:=V hm;clear hC hm;obtain⟨r,hr⟩:∃r,run (xu m) t=r:=⟨_,rfl⟩
 rw[hr];have HS:=V hr;have hg:=hR.blk;have HR:=V hR;have HB:A (Bt g w w):=V (bR.refl _ _);clear hR hr;go_enter Tryz.func184,Tryz.ntmps184;go_wp2_with fail;refine(gW _ _ (HR.out.low qe) (by decide)).mono ?_;rintro e w1 h1;rcases h1.cases with⟨x1,u1,v1,r1,rfl,b1,V1,R1⟩|⟨u1,r1,rfl,b1⟩
 rotate_left 1
 · exact QC
 have HT:=V (HD.out _ r1);replace HS:=bY HS r1;replace HB:A (Bt g w w1):=V qh;replace HR:=V R1;clear b1 R1;clear r1 h1 HD;obtain rfl:=V1;go_wp2_with fail;go_loopg [5] FU (ah6 L g r m t.length w)
 case atStart=>
  have h1:=HT.out;exact⟨⟨[],u1,HS.out,by unfold FU;omega,h1,by simp;omega,bZ.nil,(HR.out.low qe)⟩,by have bU:=HB.out;exact qe⟩
 case round=>
  obtain⟨⟨l,u,hs,hk,hn,hl,ho,hR⟩,hb⟩:=hrel;clear HS HB HR HT;obtain⟨k,rfl⟩:∃k,gk=k+1:=⟨gk-1,by omega⟩
  rw[OZ] at hs;have HL:=V hl;have HK:=V hk;have HN:=V hn;have HO:=V ho;have HR:=V hR;have HB:=V hb;have HS:=V hs;have BN:=V hR.gd;clear hl hk hn ho hR hb hs;go_wp2_with fail;refine(dL yU _ (HR.out.low qe) (by decide)).mono ?_;rintro e w2 ⟨b2,⟨i2,rfl,R2⟩|⟨i2,rfl,R2⟩⟩
  · have o2:bZ 3 1 dZ (fun b=>w.heap.size<=b) w2 u5 l:=HO.out.up dZ.map (b2.mono fun k _ hk=>by have:w.heap.size<=k:=hk;omega) (af _);obtain⟨p,c,rfl,hrw⟩:=o2.rw dZ.map zM (by have:=HL.out;omega);have HW:=V hrw;replace HS:=dY HS i2;replace HB:A (Bt g w w2):=V qh;replace HR:=V R2;clear b2 R2;clear i2 o2 hrw HO;go_wp2_with fail;go_ret;exact PO.ok (dA HS) HB.out ⟨p,_,c,rfl,HW.out⟩ HR.out
  · have o2:bZ 3 1 dZ (fun b=>w.heap.size<=b) w2 u5 l:=HO.out.up dZ.map (b2.mono fun k _ hk=>by have:w.heap.size<=k:=hk;omega) (af _);replace HO:=V o2;replace HS:=dX HS i2;replace HB:A (Bt g w w2):=V qh;replace HR:=V R2;clear b2 R2;clear i2 o2;have hlen:∃p c,u5=.slice p l.length c:=by
     obtain⟨p,c,h,-⟩:=HO.out.rw dZ.map zM (by have:=HL.out;omega);exact⟨p,c,h⟩
    obtain⟨p5,c5,rfl⟩:=hlen;have hlm:l.length<=30000:=by have:=HL.out;omega
    cases l with
    | nil=>
     dsimp only [EI] at HS;have n_:A (∀x v,run m u=.ok x v->v.length+1<=u.length):=V fun x v h=>(HM.out.out BN.out h).2;go_wp2_with fail;refine(HC.out _ _ (HR.out.low qe) HN.out).mono ?_;rintro e w3 h3;rcases h3.cases with⟨x3,u3,v3,r3,rfl,b3,V3,R3⟩|⟨u3,r3,rfl,b3⟩
     rotate_left 1
     · exact QC
     have mZ:=V (n_.out _ _ r3);replace HS:=bY HS r3;have s2:=HB.out.size;have s3:=b3.size;have o3:bZ 3 1 dZ (fun b=>w.heap.size<=b) w3 (.slice p5 0 c5) []:=HO.out.up dZ.map (b3.mono fun k _ hk=>by have:w.heap.size<=k:=hk;omega) (af _);obtain rfl:v3=.int .i64 x3:=V3;have HY:A ((∀b,(Value.slice p5 0 c5).ownBlock=X b->w.heap.size<=b)->dZ (fun b=>w.heap.size<=b/\¬(Value.slice p5 0 c5).ownBlock=X b) (w3.alloc (.cells #[.int .i64 x3] 3)) x3 #[.int .i64 x3]):=V fun _=>rfl;replace HO:=V o3;replace HB:A (Bt g w w3):=V qh;replace HR:=V R3;clear b3 R3;clear r3 h3 o3 n_;have o4:bZ 3 1 dZ (fun b=>w.heap.size<=b) (w3.alloc (.cells (#[.int .i64 x3]) 3)) (.slice p5 0 c5) []:=HO.out.up dZ.map qe (af _);have c4:bT (w3.alloc (.cells (#[.int .i64 x3]) 3)) w3.heap.size 3 (#[.int .i64 x3]):=bT.new;obtain⟨v5,w5,hrun,o5,hg5⟩:=o4.app OM dZ.map zM c4.cell (x:=x3) (HY.out o4.blk) (by simp);have B5:A (Bt g w w5):=V (bR.grown qh hg5 fun b hb=>.inl (o4.blk b hb));have R5:A (Rd L g u3 w5):=V (HR.out.low (bR.grown qe hg5 fun b hb=>.inr (by have:=o4.blk b hb;show ¬b<=g;omega)));have O5:A (bZ 3 1 dZ (fun b=>w.heap.size<=b) w5 v5 [x3]):=V (o5.map dZ.map (af _) fun b hb _=>⟨by
      rcases hb with hb|hb
      · exact hb
      · have e:(w3.alloc (.cells (#[.int .i64 x3]) 3)).heap.size=w3.heap.size+1:=by simp
        omega,rfl⟩)
     skip
     clear o4 c4 o5 hg5 HB HR HO HY;go_wp2_with (at_builtin;refine Lib.wpList_append_run _ rfl _ _ _ _ rfl _ _ rfl rfl _ _ hrun ?_)
     go_roundg k
     case measure=>omega
     case rel=>
      have h1:=mZ.out;have h2:=HK.out;have h3:=HN.out;have h4:=HL.out;exact⟨⟨_,u3,HS.out,by omega,by omega,by simp at h4 ⊢; omega,O5.out,R5.out⟩,B5.out⟩
    | cons y l=>
     dsimp only [EI] at HS;have wo:A (∀v,run (exp yS) u=.ok () v->Gd v/\v.length+1<=u.length):=V fun v h=>(Dn.exp (by decide):Dn 1 (exp yS)).out BN.out h;have hpos:decide ((0:Int)<(((y::l).length:Nat):Int))=true:=decide_eq_true (by have h:0<(y::l).length:=Nat.zero_lt_succ _;omega);go_wp2_with fail;refine(gW _ _ (HR.out.low qe) (by decide)).mono ?_;rintro e w3 h3;rcases h3.cases with⟨x3,u3,v3,r3,rfl,b3,V3,R3⟩|⟨u3,r3,rfl,b3⟩
     rotate_left 1
     · exact QC
     have xN:=V (wo.out _ r3);have n_:A (∀x v,run m u3=.ok x v->v.length+1<=u3.length):=V fun x v h=>(HM.out.out xN.out.1 h).2;replace HS:=bY HS r3;have s2:=HB.out.size;have s3:=b3.size;have o3:bZ 3 1 dZ (fun b=>w.heap.size<=b) w3 (.slice p5 (y::l).length c5) (y::l):=HO.out.up dZ.map (b3.mono fun k _ hk=>by have:w.heap.size<=k:=hk;omega) (af _);replace HO:=V o3;replace HB:A (Bt g w w3):=V qh;replace HR:=V R3;clear b3 R3;clear r3 h3 o3 wo;obtain rfl:=V3;go_wp2_with fail;refine(HC.out _ _ (HR.out.low qe) (by have h1:=xN.out.2;have h2:=HN.out;omega)).mono ?_;rintro e w4 h4;rcases h4.cases with⟨x4,u4,v4,r4,rfl,b4,V4,R4⟩|⟨u4,r4,rfl,b4⟩
     rotate_left 1
     · exact QC
     have mZ:=V (n_.out _ _ r4);replace HS:=bY HS r4;have s4:=b4.size;have yC:bZ 3 1 dZ (fun b=>w.heap.size<=b) w4 (.slice p5 (y::l).length c5) (y::l):=HO.out.up dZ.map (b4.mono fun k _ hk=>by have:w.heap.size<=k:=hk;omega) (af _);obtain rfl:v4=.int .i64 x4:=V4;have HY:A ((∀b,(Value.slice p5 (y::l).length c5).ownBlock=X b->w.heap.size<=b)->dZ (fun b=>w.heap.size<=b/\¬(Value.slice p5 (y::l).length c5).ownBlock=X b) (w4.alloc (.cells #[.int .i64 x4] 3)) x4 #[.int .i64 x4]):=V fun _=>rfl;replace HO:=V yC;replace HB:A (Bt g w w4):=V qh;replace HR:=V R4;clear b4 R4;clear r4 h4 yC n_;have o4:bZ 3 1 dZ (fun b=>w.heap.size<=b) (w4.alloc (.cells (#[.int .i64 x4]) 3)) (.slice p5 (y::l).length c5) (y::l):=HO.out.up dZ.map qe (af _);have ze:bT (w4.alloc (.cells (#[.int .i64 x4]) 3)) w4.heap.size 3 (#[.int .i64 x4]):=bT.new;obtain⟨v5,w5,hrun,o5,hg5⟩:=o4.app OM dZ.map zM ze.cell (x:=x4) (HY.out o4.blk) (by omega);have B5:A (Bt g w w5):=V (bR.grown qh hg5 fun b hb=>.inl (o4.blk b hb));have R5:A (Rd L g u4 w5):=V (HR.out.low (bR.grown qe hg5 fun b hb=>.inr (by have:=o4.blk b hb;show ¬b<=g;omega)));have O5:A (bZ 3 1 dZ (fun b=>w.heap.size<=b) w5 v5 ((y::l)++[x4])):=V (o5.map dZ.map (af _) fun b hb _=>⟨by
      rcases hb with hb|hb
      · exact hb
      · have e:(w4.alloc (.cells (#[.int .i64 x4]) 3)).heap.size=w4.heap.size+1:=by simp
        omega,rfl⟩)
     skip
     clear o4 ze o5 hg5 HB HR HO HY;go_wp2_with (at_builtin;refine Lib.wpList_append_run _ rfl _ _ _ _ rfl _ _ rfl rfl _ _ hrun ?_)
     go_roundg k
     case measure=>omega
     case rel=>
      have h0:=xN.out.2;have h1:=mZ.out;have h2:=HK.out;have h3:=HN.out;have h4:=HL.out;exact⟨⟨_,u4,HS.out,by omega,by omega,by simp at h4 ⊢; omega,O5.out,R5.out⟩,B5.out⟩
end
end Ps
namespace Ps
open Go.RowKit
open Lx (Tk)
open Sm (Dt Ints)
open Md (Rw At bT)
set_option maxHeartbeats 1000000
def wG (d:Dt) (vp:Option Addr) (vm vc:Nat) (wp:Option Addr) (wm wc:Nat):Array ax:=#[.int .i64 d.op,.int .i64 d.a,.int .i64 d.b,.int .i64 d.n,.slice vp vm vc,.slice wp wm wc]
def Zb (lo:Nat) (w:aj) (d:Dt) (v:ax):Prop:=∃vp vm vc wp wm wc,v=.agg (wG d vp vm vc wp wm wc)/\Ints (fun b=>lo<=b) w d.vs vp vm/\Ints (fun b=>lo<=b) w d.ws wp wm
theorem ai_ {w:aj} {g:Nat} {t:TypeId} {z:Array ax} {a b c d e f:ax} (h:bT w g t z) (hz:z.size=6):bT ((((((w.setCell ⟨g,0,U⟩ a).setCell ⟨g,1,U⟩ b).setCell ⟨g,2,U⟩ c).setCell ⟨g,3,U⟩ d).setCell ⟨g,4,U⟩ e).setCell ⟨g,5,U⟩ f) g t #[a,b,c,d,e,f]:=by
 obtain⟨x0,x1,x2,x3,x4,x5,rfl⟩:∃x0 x1 x2 x3 x4 x5,z=#[x0,x1,x2,x3,x4,x5]:=by
  match z,hz with
  | ⟨[x0,x1,x2,x3,x4,x5]⟩,_=>exact⟨x0,x1,x2,x3,x4,x5,rfl⟩
 exact fq (fq (fq (fq (fq (fq h)))))
theorem nA {G:Nat->Prop} {w:aj} {p:Option Addr}:Ints G w [] p 0:=⟨rfl,by omega,.inl rfl⟩
theorem OI {G:Nat->Prop} {w:aj} {l:List Int} {p:Option Addr} {m:Nat} (h:Rw 1 dZ G w l p m):Ints G w l p m:=by
 obtain⟨h1,h2,h3|⟨b,o,rfl,hg,hb,hc⟩⟩:=h
 · exact⟨h1,h2,.inl h3⟩
 · refine⟨h1,h2,.inr ⟨b,o,rfl,hg,hb,V fun i hi=>?_⟩⟩;obtain⟨c,h4,h5,h6⟩:=hc.out i hi;have h6:c=#[.int .i64 l[i]]:=h6;subst h6;have:=h5.get (r:=0) rfl;rwa [Nat.add_zero,Nat.mul_one] at this
structure ahw (w4:aj) (D:Nat) (l:List (Int×Int)) (n:Nat) (v:ax) (wr:aj):Prop where
 ex:∃k vv vw,k+n=l.length/\v=.int .i64 ((k:Nat):Int)/\bT wr D 58 #[.int .i64 3,.int .i64 0,.int .i64 0,.int .i64 0,vv,vw]/\bZ 3 1 dZ (fun b=>w4.heap.size<=b) wr vv ((l.take k).map (·.1))/\bZ 3 1 dZ (fun b=>w4.heap.size<=b) wr vw ((l.take k).map (·.2))/\(∀b,vv.ownBlock=X b->¬vw.ownBlock=X b)
 eq:bR (fun b=>¬b=D) w4 wr
theorem WK {α β:Type} (f:α->β) {l:List α} {k:Nat} (h:k<l.length):(l.take (k+1)).map f=(l.take k).map f++[f l[k]]:=by
 rw[List.take_add_one,List.getElem?_eq_getElem h,List.map_append];rfl
section
variable {L:Lk} {g:Nat} {t:List Tk}
theorem BF {p:Prop} (h:p:=by
 have bU:=HB.out;go_wp2_with fail;exact⟨rfl,PO.no (dJ HS (by assumption)) qe⟩
 ):p:=h
theorem LX {p:Prop} (h:p:=by
 exact au rfl _ _ w.heap.size 58 _ (0,0) _ rfl (ai_ Z.out rfl) Tryz.underlying58 rfl (by kernel_rfl)
 ):p:=h
theorem af7 {p:Prop} (h:p:=by rw[List.length_append,List.length_map,List.length_take,List.length_singleton];omega):p:=h
set_option maxRecDepth 100000 in
theorem Jv (w:aj) (hR:Rd L g t w):Calls ag 129 #[.pointer (X ⟨g,0,U⟩)] w (PO L g Zb (run dst t) w):=by
 obtain⟨r,hr⟩:∃r,run dst t=r:=⟨_,rfl⟩
 rw[hr];have HS:=V hr;have hg:=hR.blk;have HR:=V hR;have HB:A (Bt g w w):=V (bR.refl _ _);clear hR hr;have Z:=V (bT.new (w:=w) (t:=58) (c:=#[.int .i64 0,.int .i64 0,.int .i64 0,.int .i64 0,.slice U 0 0,.slice U 0 0]));go_enter Tryz.func129,Tryz.ntmps129;go_wp2_with fail;refine(dL ac6 _ (HR.out.low qe) (by decide)).mono ?_;rintro e w1 ⟨b1,⟨i1,rfl,R1⟩|⟨i1,rfl,R1⟩⟩
 · replace HS:=dY HS i1;replace Z:=V (bS (w2:=w1) Z.out qe);replace HB:A (Bt g w w1):=V qh;replace HR:=V R1;clear b1 R1;clear i1;go_wp2_with fail;refine(mh _ (HR.out.low qe)).mono ?_;rintro e w2 h2;rcases h2.cases with⟨x2,u2,v2,r2,rfl,b2,V2,R2⟩|⟨u2,r2,rfl,b2⟩
   rotate_left 1
   · exact BF
   replace HS:=bY HS r2;replace Z:=V (bS (w2:=w2) Z.out qe);replace HB:A (Bt g w w2):=V qh;replace HR:=V R2;clear b2 R2;clear r2 h2;obtain⟨rfl,n0,n1⟩:=V2;have y0:ae _ ⟨_,0,U⟩=X (.int .i64 0):=Z.out.get rfl;have y1:ae _ ⟨_,1,U⟩=X (.int .i64 0):=Z.out.get rfl;have y2:ae _ ⟨_,2,U⟩=X (.int .i64 0):=Z.out.get rfl;have y3:ae _ ⟨_,3,U⟩=X (.int .i64 0):=Z.out.get rfl;have y4:ae _ ⟨_,4,U⟩=X (.slice U 0 0):=Z.out.get rfl;have y5:ae _ ⟨_,5,U⟩=X (.slice U 0 0):=Z.out.get rfl;have fz:∀i,ai _ ⟨_,i,U⟩=false:=fun i=>df (i:=i) Z.out;go_wp2_with fail;have bU:=HB.out;refine ak (v:=.agg (wG (⟨1,x2,0,0,[],[]⟩:Dt) U 0 0 U 0 0)) ?_ rfl (PO.ok (dA HS) qe ⟨U,0,0,U,0,0,rfl,nA,nA⟩ (HR.out.low qe));exact LX
 replace HS:=dX HS i1;replace Z:=V (bS (w2:=w1) Z.out qe);replace HB:A (Bt g w w1):=V qh;replace HR:=V R1;clear b1 R1;clear i1;go_wp2_with fail;refine(dL adI _ (HR.out.low qe) (by decide)).mono ?_;rintro e w2 ⟨b2,⟨i2,rfl,R2⟩|⟨i2,rfl,R2⟩⟩
 · replace HS:=dY HS i2;replace Z:=V (bS (w2:=w2) Z.out qe);replace HB:A (Bt g w w2):=V qh;replace HR:=V R2;clear b2 R2;clear i2;go_wp2_with fail;refine(mh _ (HR.out.low qe)).mono ?_;rintro e w3 h3;rcases h3.cases with⟨x3,u3,v3,r3,rfl,b3,V3,R3⟩|⟨u3,r3,rfl,b3⟩
   rotate_left 1
   · exact BF
   replace HS:=bY HS r3;replace Z:=V (bS (w2:=w3) Z.out qe);replace HB:A (Bt g w w3):=V qh;replace HR:=V R3;clear b3 R3;clear r3 h3;obtain⟨rfl,n0,n1⟩:=V3;go_wp2_with fail;refine(mh _ (HR.out.low qe)).mono ?_;rintro e w4 h4;rcases h4.cases with⟨x4,u4,v4,r4,rfl,b4,V4,R4⟩|⟨u4,r4,rfl,b4⟩
   rotate_left 1
   · exact BF
   replace HS:=bY HS r4;replace Z:=V (bS (w2:=w4) Z.out qe);replace HB:A (Bt g w w4):=V qh;replace HR:=V R4;clear b4 R4;clear r4 h4;obtain⟨rfl,n2,n3⟩:=V4;have y0:ae _ ⟨_,0,U⟩=X (.int .i64 0):=Z.out.get rfl;have y1:ae _ ⟨_,1,U⟩=X (.int .i64 0):=Z.out.get rfl;have y2:ae _ ⟨_,2,U⟩=X (.int .i64 0):=Z.out.get rfl;have y3:ae _ ⟨_,3,U⟩=X (.int .i64 0):=Z.out.get rfl;have y4:ae _ ⟨_,4,U⟩=X (.slice U 0 0):=Z.out.get rfl;have y5:ae _ ⟨_,5,U⟩=X (.slice U 0 0):=Z.out.get rfl;have fz:∀i,ai _ ⟨_,i,U⟩=false:=fun i=>df (i:=i) Z.out;go_wp2_with fail;have bU:=HB.out;refine ak (v:=.agg (wG (⟨2,x3,x4,0,[],[]⟩:Dt) U 0 0 U 0 0)) ?_ rfl (PO.ok (dA HS) qe ⟨U,0,0,U,0,0,rfl,nA,nA⟩ (HR.out.low qe));exact LX
 replace HS:=dX HS i2;replace Z:=V (bS (w2:=w2) Z.out qe);replace HB:A (Bt g w w2):=V qh;replace HR:=V R2;clear b2 R2;clear i2;go_wp2_with fail;refine(dL UB _ (HR.out.low qe) (by decide)).mono ?_;rintro e w3 ⟨b3,⟨i3,rfl,R3⟩|⟨i3,rfl,R3⟩⟩
 · have hl3:A (∀x u,run yD t.tail=.ok x u->x.length<=30000):=V (aey (s:=UB) HR.out.gd HR.out.small i3);replace HS:=dY HS i3;replace Z:=V (bS (w2:=w3) Z.out qe);replace HB:A (Bt g w w3):=V qh;replace HR:=V R3;clear b3 R3;clear i3;go_wp2_with fail;have hz3:=Z.out.lt;have Y:=V (bT.new (w:=w3) (t:=58) (c:=#[.int .i64 3,.int .i64 0,.int .i64 0,.int .i64 0,.slice U 0 0,.slice U 0 0]));refine(aen _ (HR.out.low qe)).mono ?_;rintro e w4 h4;rcases h4.cases with⟨x4,u4,v4,r4,rfl,b4,V4,R4⟩|⟨u4,r4,rfl,b4⟩
   rotate_left 1
   · exact BF
   have BP:=V (hl3.out _ _ r4);replace HS:=bY HS r4;replace Z:=V (bS (w2:=w4) Z.out qe);replace Y:=V (bS (w2:=w4) Y.out qe);replace HB:A (Bt g w w4):=V qh;replace HR:=V R4;clear b4 R4;clear r4 h4 hl3;obtain⟨p,m,c,rfl,hrw⟩:=V4;obtain rfl:x4.length=m:=hrw.1;have e0:(w3.alloc (.cells #[.int .i64 3,.int .i64 0,.int .i64 0,.int .i64 0,.slice U 0 0,.slice U 0 0] 58)).heap.size=w3.heap.size+1:=by simp
   rw[e0] at hrw;have HRW:=V hrw;have sH:=Z.out.lt;have hy4:=Y.out.lt;clear hrw e0;go_wp2_with fail;go_loopg [27] x4.length (ahw w4 w3.heap.size x4)
   case atStart=>exact⟨⟨0,.slice U 0 0,.slice U 0 0,by omega,rfl,Y.out,bZ.nil,bZ.nil,fun b h=>by cases h⟩,bR.refl _ _⟩
   case round=>
    obtain⟨⟨k,vv,vw,hk,rfl,hbx,hov,how,hne⟩,hq⟩:=hrel;by_cases hkl:k<x4.length
    · obtain⟨pb,o,rfl,hpb,hlt,hcc⟩:=HRW.out.rows (by omega);obtain⟨cc,hc1,hc2,hc3⟩:=hcc.out k hkl;have hc3:cc=tV x4[k]:=hc3;subst hc3;obtain⟨⟨a,b⟩,hab⟩:∃q,x4[k]=q:=⟨_,rfl⟩
      rw[hab] at hc2;have hpb:w3.heap.size+1<=pb:=hpb;have hcw:At wr pb (o+k*2) #[.int .i64 a,.int .i64 b]:=hc2.keep (hq.block pb hlt (by omega));have q0:wr.cell? ⟨pb,o+k*2,U⟩=X (.int .i64 a):=by have:=hcw.get (r:=0) rfl;rwa [Nat.add_zero] at this
      have q1:wr.cell? ⟨pb,o+k*2+1,U⟩=X (.int .i64 b):=hcw.get (r:=1) rfl;have k0:(0:Int)<=(k:Int):=by omega
      have k1:(k:Int)<(x4.length:Int):=by omega
      have k2:decide ((k:Int)<(x4.length:Int))=true:=decide_eq_true k1;have hkm:k<x4.length:=hkl;have hlen:=BP.out;have hw:IntKind.i64.wrap ((k:Int)+1)=((k+1:Nat):Int):=by rw[IntKind.wrap_i64];omega
      have hs4:w4.heap.size<=wr.heap.size:=hq.size;have b5:bT (wr.alloc (.cells #[.int .i64 a,.int .i64 b] 249)) wr.heap.size 249 #[.int .i64 a,.int .i64 b]:=bT.new;have d5:bT (wr.alloc (.cells #[.int .i64 a,.int .i64 b] 249)) w3.heap.size 58 #[.int .i64 3,.int .i64 0,.int .i64 0,.int .i64 0,vv,vw]:=bS hbx qe;have c6:bT ((wr.alloc (.cells #[.int .i64 a,.int .i64 b] 249)).alloc (.cells #[.int .i64 a] 3)) (wr.heap.size+1) 3 #[.int .i64 a]:=by
       have h:=bT.new (w:=wr.alloc (.cells #[.int .i64 a,.int .i64 b] 249)) (t:=3) (c:=#[.int .i64 a]);rwa [show(wr.alloc (.cells #[.int .i64 a,.int .i64 b] 249)).heap.size=wr.heap.size+1 by simp] at h
      have o6:bZ 3 1 dZ (fun b=>w4.heap.size<=b/\¬vw.ownBlock=X b) ((wr.alloc (.cells #[.int .i64 a,.int .i64 b] 249)).alloc (.cells #[.int .i64 a] 3)) vv ((x4.take k).map (·.1)):=by
       have q:bR (fun _=>True) wr ((wr.alloc (.cells #[.int .i64 a,.int .i64 b] 249)).alloc (.cells #[.int .i64 a] 3)):=by exact qe
       obtain⟨C,f1,f2,f3⟩:=hov.ex;exact⟨⟨C,f1,fun i hi hi2=>f2 i hi hi2,Ky f3 fun b hb=>q.block b (hov.own hb) trivial⟩,fun b hb=>⟨hov.blk b hb,hne b hb⟩⟩
      obtain⟨v7,w7,am6,o7,Gz⟩:=o6.app OM dZ.map zM c6.cell (x:=a) rfl (by rw[List.length_map,List.length_take];omega);obtain⟨p7,n7,c7,rfl⟩:∃p n c,v7=.slice p n c:=by
       obtain⟨p,c,h,-⟩:=o7.rw dZ.map zM af7;exact⟨p,_,c,h⟩
      have d7:bT w7 w3.heap.size 58 #[.int .i64 3,.int .i64 0,.int .i64 0,.int .i64 0,vv,vw]:=bS d5 (bR.grown qe Gz fun b hb=>.inr (by have:=o6.blk b hb;show ¬b=w3.heap.size;omega));have b7:bT w7 wr.heap.size 249 #[.int .i64 a,.int .i64 b]:=bS b5 (bR.grown qe Gz fun b hb=>.inr (by have:=hov.own hb;show ¬b=wr.heap.size;omega));have s7:wr.heap.size+1<w7.heap.size:=Nat.lt_of_lt_of_le c6.lt Gz.size;have Pd:bZ 3 1 dZ (fun b=>w4.heap.size<=b) (((wr.alloc (.cells #[.int .i64 a,.int .i64 b] 249)).alloc (.cells #[.int .i64 a] 3))) vw ((x4.take k).map (·.2)):=by
       have q:bR (fun _=>True) wr ((wr.alloc (.cells #[.int .i64 a,.int .i64 b] 249)).alloc (.cells #[.int .i64 a] 3)):=by exact qe
       exact how.map dZ.map q.size fun b hb hlt=>⟨hb,q.block b hlt trivial⟩
      have Uk:∀j,(Value.slice p7 n7 c7).ownBlock=X j->¬vw.ownBlock=X j:=fun j h1 h2=>by
       have h3:=how.own h2;rcases o7.blk j h1 with h4|h4
       · exact h4.2 h2
       · simp at h4;omega
      have q7:bR (fun j=>vw.ownBlock=X j∨(Value.slice p7 n7 c7).ownBlock=X j) w7 (w7.setCell ⟨w3.heap.size,4,U⟩ (.slice p7 n7 c7)):=bR.set (bR.refl _ _) (.inr fun h=>by
       rcases h with h|h
       · have:=how.blk _ h;have h9:w4.heap.size<=w3.heap.size:=this;omega
       · rcases o7.blk _ h with h4|h4
         · have h9:w4.heap.size<=w3.heap.size:=h4.1;omega
         · simp at h4;omega)
      have d8:bT (w7.setCell ⟨w3.heap.size,4,U⟩ (.slice p7 n7 c7)) w3.heap.size 58 #[.int .i64 3,.int .i64 0,.int .i64 0,.int .i64 0,(.slice p7 n7 c7),vw]:=fq d7;have b8:bT (w7.setCell ⟨w3.heap.size,4,U⟩ (.slice p7 n7 c7)) wr.heap.size 249 #[.int .i64 a,.int .i64 b]:=bS b7 qe;have e8:(w7.setCell ⟨w3.heap.size,4,U⟩ (.slice p7 n7 c7)).heap.size=w7.heap.size:=by simp
      have c9:bT ((w7.setCell ⟨w3.heap.size,4,U⟩ (.slice p7 n7 c7)).alloc (.cells #[.int .i64 b] 3)) w7.heap.size 3 #[.int .i64 b]:=by
       have h:=bT.new (w:=w7.setCell ⟨w3.heap.size,4,U⟩ (.slice p7 n7 c7)) (t:=3) (c:=#[.int .i64 b]);rwa [e8] at h
      have o9:bZ 3 1 dZ (fun j=>w4.heap.size<=j/\¬(Value.slice p7 n7 c7).ownBlock=X j) ((w7.setCell ⟨w3.heap.size,4,U⟩ (.slice p7 n7 c7)).alloc (.cells #[.int .i64 b] 3)) vw ((x4.take k).map (·.2)):=by
       have qa:bR (fun j=>vw.ownBlock=X j) ((wr.alloc (.cells #[.int .i64 a,.int .i64 b] 249)).alloc (.cells #[.int .i64 a] 3)) w7:=bR.grown (bR.refl _ _) Gz fun j h=>.inr (hne j h);have qb:bR (fun j=>vw.ownBlock=X j) w7 (w7.setCell ⟨w3.heap.size,4,U⟩ (.slice p7 n7 c7)):=q7.mono fun j _ h=>.inl h;have qc:bR (fun j=>vw.ownBlock=X j) _ ((w7.setCell ⟨w3.heap.size,4,U⟩ (.slice p7 n7 c7)).alloc (.cells #[.int .i64 b] 3)):=(qa.trans qb).alloc;obtain⟨C,f1,f2,f3⟩:=Pd.ex;exact⟨⟨C,f1,fun i hi hi2=>f2 i hi hi2,Ky f3 fun j hj=>qc.block j (Pd.own hj) hj⟩,fun j hj=>⟨Pd.blk j hj,fun h=>Uk j h hj⟩⟩
      obtain⟨v10,eX,am7,EL,JR⟩:=o9.app OM dZ.map zM c9.cell (x:=b) rfl (by rw[List.length_map,List.length_take];omega);obtain⟨oF,n10,c10,rfl⟩:∃p n c,v10=.slice p n c:=by
       obtain⟨p,c,h,-⟩:=EL.rw dZ.map zM af7;exact⟨p,_,c,h⟩
      have d10:bT eX w3.heap.size 58 #[.int .i64 3,.int .i64 0,.int .i64 0,.int .i64 0,(.slice p7 n7 c7),vw]:=bS d8 (bR.grown qe JR fun j hj=>.inr (by have:=o9.blk j hj;show ¬j=w3.heap.size;omega));have s10:w7.heap.size<eX.heap.size:=Nat.lt_of_lt_of_le c9.lt JR.size;have acy:∀j,(Value.slice p7 n7 c7).ownBlock=X j->¬(Value.slice oF n10 c10).ownBlock=X j:=fun j h1 h2=>by
       have h3:=o7.own h1;rcases EL.blk j h2 with h4|h4
       · exact h4.2 h1
       · simp at h4;omega
      have o11:bZ 3 1 dZ (fun j=>w4.heap.size<=j) (eX.setCell ⟨w3.heap.size,5,U⟩ (.slice oF n10 c10)) (.slice p7 n7 c7) ((x4.take (k+1)).map (·.1)):=by
       rw[WK _ hkl,hab];have qa:bR (fun j=>(Value.slice p7 n7 c7).ownBlock=X j) w7 eX:=bR.grown ((q7.mono fun j _ h=>.inr h).alloc) JR fun j h=>.inr fun h2=>Uk j h2 h;have qb:bR (fun j=>(Value.slice p7 n7 c7).ownBlock=X j) w7 (eX.setCell ⟨w3.heap.size,5,U⟩ (.slice oF n10 c10)):=qa.trans (bR.set (bR.refl _ _) (.inr fun h=>by
        rcases o7.blk _ h with h4|h4
        · have h9:w4.heap.size<=w3.heap.size:=h4.1;omega
        · simp at h4;omega))
       obtain⟨C,f1,f2,f3⟩:=o7.ex;exact⟨⟨C,f1,fun i hi hi2=>f2 i hi hi2,Ky f3 fun j hj=>qb.block j (o7.own hj) hj⟩,fun j hj=>by
        rcases o7.blk j hj with h4|h4
        · exact h4.1
        · simp at h4;show w4.heap.size<=j;omega⟩
      have o12:bZ 3 1 dZ (fun j=>w4.heap.size<=j) (eX.setCell ⟨w3.heap.size,5,U⟩ (.slice oF n10 c10)) (.slice oF n10 c10) ((x4.take (k+1)).map (·.2)):=by
       rw[WK _ hkl,hab];have qb:bR (fun j=>(Value.slice oF n10 c10).ownBlock=X j) eX (eX.setCell ⟨w3.heap.size,5,U⟩ (.slice oF n10 c10)):=bR.set (bR.refl _ _) (.inr fun h=>by
        rcases EL.blk _ h with h4|h4
        · have h9:w4.heap.size<=w3.heap.size:=h4.1;omega
        · simp at h4;omega)
       obtain⟨C,f1,f2,f3⟩:=EL.ex;exact⟨⟨C,f1,fun i hi hi2=>f2 i hi hi2,Ky f3 fun j hj=>qb.block j (EL.own hj) hj⟩,fun j hj=>by
        rcases EL.blk j hj with h4|h4
        · exact h4.1
        · simp at h4;show w4.heap.size<=j;omega⟩
      have Pz:bR (fun b=>¬b=w3.heap.size) w4 (eX.setCell ⟨w3.heap.size,5,U⟩ (.slice oF n10 c10)):=by
       have qa:bR (fun b=>¬b=w3.heap.size) w4 w7:=bR.grown qe Gz fun j h=>.inl (o6.blk j h).1;have qb:bR (fun b=>¬b=w3.heap.size) w4 eX:=bR.grown qe JR fun j h=>.inl (o9.blk j h).1;exact qe
      have HX:=V (And.intro (fq (i:=5) (v:=(.slice oF n10 c10)) d10) (And.intro o11 (And.intro o12 (And.intro acy Pz))));have f4:wr.cell? ⟨w3.heap.size,4,U⟩=X vv:=hbx.get rfl;have f4':ae _ ⟨w3.heap.size,4,U⟩=X vv:=d5.get rfl;have f5:ae _ ⟨wr.heap.size,0,U⟩=X (.int .i64 a):=b5.get rfl;have f6:w7.cell? ⟨w3.heap.size,4,U⟩=X vv:=d7.get rfl;have z7:∀i,w7.frozen? ⟨w3.heap.size,i,U⟩=false:=fun i=>df (i:=i) d7;have f7:w7.cell? ⟨w3.heap.size,5,U⟩=X vw:=d7.get rfl;have f7':ae _ ⟨w3.heap.size,5,U⟩=X vw:=d8.get rfl;have f8:w7.cell? ⟨wr.heap.size,1,U⟩=X (.int .i64 b):=b7.get rfl;have f8':ae _ ⟨wr.heap.size,1,U⟩=X (.int .i64 b):=b8.get rfl;have f9:eX.cell? ⟨w3.heap.size,5,U⟩=X vw:=d10.get rfl;have z9:∀i,eX.frozen? ⟨w3.heap.size,i,U⟩=false:=fun i=>df (i:=i) d10;clear hov how hne hq hbx hcc hc1 hc2 hcw b5 d5 c6 o6 o7 Gz d7 b7 Pd Uk q7 d8 b8 c9 o9 EL JR d10 acy o11 o12 Pz HRW HS HB HR Z Y;go_wp2_with (at_builtin;first|(refine Lib.wpList_append_run _ rfl _ _ _ _ rfl _ _ rfl rfl _ _ am6 ?_)|(refine Lib.wpList_append_run _ rfl _ _ _ _ rfl _ _ rfl rfl _ _ am7 ?_))
      go_roundg (gk-1)
      case measure=>omega
      case rel=>
       obtain⟨h1,h2,h3,h4,h5⟩:=HX.out;exact⟨⟨k+1,(.slice p7 n7 c7),(.slice oF n10 c10),by omega,rfl,h1,h2,h3,h4⟩,h5⟩
    · obtain rfl:k=x4.length:=by omega
      rw[List.take_length] at hov how;obtain⟨vp,vc,hvv,Ul⟩:=hov.rw dZ.map zM (by rw[List.length_map];have:=BP.out;omega);obtain⟨wp,wc,hww,hwr⟩:=how.rw dZ.map zM (by rw[List.length_map];have:=BP.out;omega);rw[List.length_map] at hvv Ul hww hwr;subst hvv hww;have HV:=V Ul;have HW:=V hwr;replace Y:=V hbx;replace Z:=V (bS (w2:=wr) Z.out qe);have hs4:w4.heap.size<=wr.heap.size:=hq.size;replace HB:A (Bt g w wr):=V (by have bU:=HB.out;exact bU.call hq (by intro k hk hs;omega));replace HR:A (Rd L g u4 wr):=V (HR.out.low (bR.mono hq (by intro k hk hs;have hs':k<=g:=hs;omega)));have k2:decide ((x4.length:Int)<(x4.length:Int))=false:=decide_eq_false (by omega);have k3:¬((x4.length:Int)<(x4.length:Int)):=by omega
      clear hov how hne hq hbx hk hkl Ul hwr HRW;have l0:ae _ ⟨_,0,U⟩=X (.int .i64 3):=Y.out.get rfl;have l1:ae _ ⟨_,1,U⟩=X (.int .i64 0):=Y.out.get rfl;have l2:ae _ ⟨_,2,U⟩=X (.int .i64 0):=Y.out.get rfl;have l3:ae _ ⟨_,3,U⟩=X (.int .i64 0):=Y.out.get rfl;have l4:ae _ ⟨_,4,U⟩=X (.slice vp _ vc):=Y.out.get rfl;have l5:ae _ ⟨_,5,U⟩=X (.slice wp _ wc):=Y.out.get rfl;have y0:ae _ ⟨_,0,U⟩=X (.int .i64 0):=Z.out.get rfl;have y1:ae _ ⟨_,1,U⟩=X (.int .i64 0):=Z.out.get rfl;have y2:ae _ ⟨_,2,U⟩=X (.int .i64 0):=Z.out.get rfl;have y3:ae _ ⟨_,3,U⟩=X (.int .i64 0):=Z.out.get rfl;have y4:ae _ ⟨_,4,U⟩=X (.slice U 0 0):=Z.out.get rfl;have y5:ae _ ⟨_,5,U⟩=X (.slice U 0 0):=Z.out.get rfl;have fz:∀i,ai _ ⟨_,i,U⟩=false:=fun i=>df (i:=i) Z.out;go_wp2_with fail;have bU:=HB.out;have q:∀W,bR (fun b=>w4.heap.size<=b) wr W->Zb w.heap.size W (⟨3,0,0,0,x4.map (·.1),x4.map (·.2)⟩:Dt) (.agg (wG ⟨3,0,0,0,x4.map (·.1),x4.map (·.2)⟩ vp x4.length vc wp x4.length wc)):=fun W q=>⟨vp,_,vc,wp,_,wc,rfl,Sm.Ints.map q.size (fun b hb hlt=>⟨by show w.heap.size<=b;have hb':w4.heap.size<=b:=hb;omega,q.block b hlt hb⟩) (OI HV.out),Sm.Ints.map q.size (fun b hb hlt=>⟨by show w.heap.size<=b;have hb':w4.heap.size<=b:=hb;omega,q.block b hlt hb⟩) (OI HW.out)⟩
      refine ak (v:=.agg (wG ⟨3,0,0,0,x4.map (·.1),x4.map (·.2)⟩ vp x4.length vc wp x4.length wc)) ?_ rfl (PO.ok (dA HS) qe (q _ qe) (HR.out.low qe));exact LX
 replace HS:=dX HS i3;replace Z:=V (bS (w2:=w3) Z.out qe);replace HB:A (Bt g w w3):=V qh;replace HR:=V R3;clear b3 R3;clear i3;go_wp2_with fail;refine(dL adF _ (HR.out.low qe) (by decide)).mono ?_;rintro e w4 ⟨b4,⟨i4,rfl,R4⟩|⟨i4,rfl,R4⟩⟩
 · replace HS:=dY HS i4;replace Z:=V (bS (w2:=w4) Z.out qe);replace HB:A (Bt g w w4):=V qh;replace HR:=V R4;clear b4 R4;clear i4;go_wp2_with fail;refine(mh _ (HR.out.low qe)).mono ?_;rintro e w5 h5;rcases h5.cases with⟨x5,u5,v5,r5,rfl,b5,V5,R5⟩|⟨u5,r5,rfl,b5⟩
   rotate_left 1
   · exact BF
   replace HS:=bY HS r5;replace Z:=V (bS (w2:=w5) Z.out qe);replace HB:A (Bt g w w5):=V qh;replace HR:=V R5;clear b5 R5;clear r5 h5;obtain⟨rfl,n0,n1⟩:=V5;go_wp2_with fail;refine(mh _ (HR.out.low qe)).mono ?_;rintro e w6 h6;rcases h6.cases with⟨x6,u6,v6,r6,rfl,b6,V6,R6⟩|⟨u6,r6,rfl,b6⟩
   rotate_left 1
   · exact BF
   replace HS:=bY HS r6;replace Z:=V (bS (w2:=w6) Z.out qe);replace HB:A (Bt g w w6):=V qh;replace HR:=V R6;clear b6 R6;clear r6 h6;obtain⟨rfl,n2,n3⟩:=V6;go_wp2_with fail;refine(mh _ (HR.out.low qe)).mono ?_;rintro e w7 h7;rcases h7.cases with⟨x7,u7,v7,r7,rfl,b7,V7,R7⟩|⟨u7,r7,rfl,b7⟩
   rotate_left 1
   · exact BF
   replace HS:=bY HS r7;replace Z:=V (bS (w2:=w7) Z.out qe);replace HB:A (Bt g w w7):=V qh;replace HR:=V R7;clear b7 R7;clear r7 h7;obtain⟨rfl,n4,n5⟩:=V7;have y0:ae _ ⟨_,0,U⟩=X (.int .i64 0):=Z.out.get rfl;have y1:ae _ ⟨_,1,U⟩=X (.int .i64 0):=Z.out.get rfl;have y2:ae _ ⟨_,2,U⟩=X (.int .i64 0):=Z.out.get rfl;have y3:ae _ ⟨_,3,U⟩=X (.int .i64 0):=Z.out.get rfl;have y4:ae _ ⟨_,4,U⟩=X (.slice U 0 0):=Z.out.get rfl;have y5:ae _ ⟨_,5,U⟩=X (.slice U 0 0):=Z.out.get rfl;have fz:∀i,ai _ ⟨_,i,U⟩=false:=fun i=>df (i:=i) Z.out;go_wp2_with fail;have bU:=HB.out;refine ak (v:=.agg (wG (⟨4,x6,x7,x5,[],[]⟩:Dt) U 0 0 U 0 0)) ?_ rfl (PO.ok (dA HS) qe ⟨U,0,0,U,0,0,rfl,nA,nA⟩ (HR.out.low qe));exact LX
 replace HS:=dX HS i4;replace Z:=V (bS (w2:=w4) Z.out qe);replace HB:A (Bt g w w4):=V qh;replace HR:=V R4;clear b4 R4;clear i4;go_wp2_with fail;refine(dL adb _ (HR.out.low qe) (by decide)).mono ?_;rintro e w5 ⟨b5,⟨i5,rfl,R5⟩|⟨i5,rfl,R5⟩⟩
 · replace HS:=dY HS i5;replace Z:=V (bS (w2:=w5) Z.out qe);replace HB:A (Bt g w w5):=V qh;replace HR:=V R5;clear b5 R5;clear i5;go_wp2_with fail;refine(mh _ (HR.out.low qe)).mono ?_;rintro e w6 h6;rcases h6.cases with⟨x6,u6,v6,r6,rfl,b6,V6,R6⟩|⟨u6,r6,rfl,b6⟩
   rotate_left 1
   · exact BF
   replace HS:=bY HS r6;replace Z:=V (bS (w2:=w6) Z.out qe);replace HB:A (Bt g w w6):=V qh;replace HR:=V R6;clear b6 R6;clear r6 h6;obtain⟨rfl,n0,n1⟩:=V6;go_wp2_with fail;refine(mh _ (HR.out.low qe)).mono ?_;rintro e w7 h7;rcases h7.cases with⟨x7,u7,v7,r7,rfl,b7,V7,R7⟩|⟨u7,r7,rfl,b7⟩
   rotate_left 1
   · exact BF
   replace HS:=bY HS r7;replace Z:=V (bS (w2:=w7) Z.out qe);replace HB:A (Bt g w w7):=V qh;replace HR:=V R7;clear b7 R7;clear r7 h7;obtain⟨rfl,n2,n3⟩:=V7;have y0:ae _ ⟨_,0,U⟩=X (.int .i64 0):=Z.out.get rfl;have y1:ae _ ⟨_,1,U⟩=X (.int .i64 0):=Z.out.get rfl;have y2:ae _ ⟨_,2,U⟩=X (.int .i64 0):=Z.out.get rfl;have y3:ae _ ⟨_,3,U⟩=X (.int .i64 0):=Z.out.get rfl;have y4:ae _ ⟨_,4,U⟩=X (.slice U 0 0):=Z.out.get rfl;have y5:ae _ ⟨_,5,U⟩=X (.slice U 0 0):=Z.out.get rfl;have fz:∀i,ai _ ⟨_,i,U⟩=false:=fun i=>df (i:=i) Z.out;go_wp2_with fail;have bU:=HB.out;refine ak (v:=.agg (wG (⟨5,x6,x7,0,[],[]⟩:Dt) U 0 0 U 0 0)) ?_ rfl (PO.ok (dA HS) qe ⟨U,0,0,U,0,0,rfl,nA,nA⟩ (HR.out.low qe));exact LX
 replace HS:=dX HS i5;replace Z:=V (bS (w2:=w5) Z.out qe);replace HB:A (Bt g w w5):=V qh;replace HR:=V R5;clear b5 R5;clear i5;go_wp2_with fail;refine(BC _ (HR.out.low qe)).mono ?_;rintro e w6 ⟨rfl,b6⟩;have bU:=HB.out;go_wp2_with fail;exact⟨rfl,PO.no (Lc HS) (by have q:Bt g _ w6:=bR.of b6;exact qe)⟩
end
end Ps
namespace Ps
open Ps.P (exp)
open Go.RowKit
open Lx (Tk)
open Ex (Ex bW)
open Md (bT)
set_option maxHeartbeats 1000000
structure ah7 (L:Lk) (g:Nat) (r:R (List Ex)) (m:P Ex) (N:Nat) (w:aj) (k:Nat) (v:ax) (wr:aj):Prop where
 ex:∃l u,run (xq m k l) u=r/\u.length<k/\u.length<=N/\l.length+u.length<=30000/\bZ 41 4 jh (fun b=>w.heap.size<=b) wr v l/\Rd L g u wr
 bt:Bt g w wr
section
variable {L:Lk} {g:Nat} {t:List Tk}
theorem QD {p:Prop} (h:p:=by
 have bU:=HB.out;go_wp2_with fail;exact⟨rfl,PO.no (dJ HS (by assumption)) qe⟩
 ):p:=h
set_option maxRecDepth 100000 in
theorem an8 (f:FuncId) (m:P Ex) (hm:Dn 1 m) (w:aj) (hR:Rd L g t w) (hf:∀(a:Array ax) (W:aj),(callFunc f a).run ag W=.ok (.enter f a) W)
 (hC:∀W u,Rd L g u W->u.length<=t.length->Calls ag f #[.pointer (X ⟨g,0,U⟩)] W (PO L g VX (run m u) W)):Calls ag 170 #[.pointer (X ⟨g,0,U⟩),.func (.func f) #[] #[]] w (PO L g (VL 4 jh) (run (xu m) t) w):=by
 have HD:A (∀u,run (exp mY) t=.ok () u->u.length<=t.length):=V (fun u h=>by have:=((Dn.exp (by decide):Dn 1 (exp mY)).out hR.gd h).2;omega);have ht:=hR.small;have HC:=V hC;have HM:=V hm;clear hC hm;obtain⟨r,hr⟩:∃r,run (xu m) t=r:=⟨_,rfl⟩
 rw[hr];have HS:=V hr;have hg:=hR.blk;have HR:=V hR;have HB:A (Bt g w w):=V (bR.refl _ _);clear hR hr;go_enter Tryz.func170,Tryz.ntmps170;go_wp2_with fail;refine(gW _ _ (HR.out.low qe) (by decide)).mono ?_;rintro e w1 h1;rcases h1.cases with⟨x1,u1,v1,r1,rfl,b1,V1,R1⟩|⟨u1,r1,rfl,b1⟩
 rotate_left 1
 · exact QD
 have HT:=V (HD.out _ r1);replace HS:=bY HS r1;replace HB:A (Bt g w w1):=V qh;replace HR:=V R1;clear b1 R1;clear r1 h1 HD;obtain rfl:=V1;go_wp2_with fail;go_loopg [5] FU (ah7 L g r m t.length w)
 case atStart=>
  have h1:=HT.out;exact⟨⟨[],u1,HS.out,by unfold FU;omega,h1,by simp;omega,bZ.nil,(HR.out.low qe)⟩,by have bU:=HB.out;exact qe⟩
 case round=>
  obtain⟨⟨l,u,hs,hk,hn,hl,ho,hR⟩,hb⟩:=hrel;clear HS HB HR HT;obtain⟨k,rfl⟩:∃k,gk=k+1:=⟨gk-1,by omega⟩
  rw[OZ] at hs;have HL:=V hl;have HK:=V hk;have HN:=V hn;have HO:=V ho;have HR:=V hR;have HB:=V hb;have HS:=V hs;have BN:=V hR.gd;clear hl hk hn ho hR hb hs;go_wp2_with fail;refine(dL yU _ (HR.out.low qe) (by decide)).mono ?_;rintro e w2 ⟨b2,⟨i2,rfl,R2⟩|⟨i2,rfl,R2⟩⟩
  · have o2:bZ 41 4 jh (fun b=>w.heap.size<=b) w2 u5 l:=HO.out.up jh.map (b2.mono fun k _ hk=>by have:w.heap.size<=k:=hk;omega) (af _);obtain⟨p,c,rfl,hrw⟩:=o2.rw jh.map P8 (by have:=HL.out;omega);have HW:=V hrw;replace HS:=dY HS i2;replace HB:A (Bt g w w2):=V qh;replace HR:=V R2;clear b2 R2;clear i2 o2 hrw HO;go_wp2_with fail;go_ret;exact PO.ok (dA HS) HB.out ⟨p,_,c,rfl,HW.out⟩ HR.out
  · have o2:bZ 41 4 jh (fun b=>w.heap.size<=b) w2 u5 l:=HO.out.up jh.map (b2.mono fun k _ hk=>by have:w.heap.size<=k:=hk;omega) (af _);replace HO:=V o2;replace HS:=dX HS i2;replace HB:A (Bt g w w2):=V qh;replace HR:=V R2;clear b2 R2;clear i2 o2;have hlen:∃p c,u5=.slice p l.length c:=by
     obtain⟨p,c,h,-⟩:=HO.out.rw jh.map P8 (by have:=HL.out;omega);exact⟨p,c,h⟩
    obtain⟨p5,c5,rfl⟩:=hlen;have hlm:l.length<=30000:=by have:=HL.out;omega
    cases l with
    | nil=>
     dsimp only [EI] at HS;have n_:A (∀x v,run m u=.ok x v->v.length+1<=u.length):=V fun x v h=>(HM.out.out BN.out h).2;go_wp2_with fail;refine(HC.out _ _ (HR.out.low qe) HN.out).mono ?_;rintro e w3 h3;rcases h3.cases with⟨x3,u3,v3,r3,rfl,b3,V3,R3⟩|⟨u3,r3,rfl,b3⟩
     rotate_left 1
     · exact QD
     have mZ:=V (n_.out _ _ r3);replace HS:=bY HS r3;have s2:=HB.out.size;have s3:=b3.size;have o3:bZ 41 4 jh (fun b=>w.heap.size<=b) w3 (.slice p5 0 c5) []:=HO.out.up jh.map (b3.mono fun k _ hk=>by have:w.heap.size<=k:=hk;omega) (af _);obtain⟨p3,m3,c3,rfl,k3⟩:=V3;have HY:A ((∀b,(Value.slice p5 0 c5).ownBlock=X b->w.heap.size<=b)->jh (fun b=>w.heap.size<=b/\¬(Value.slice p5 0 c5).ownBlock=X b) (w3.alloc (.cells (cu x3 p3 m3 c3) 41)) x3 (cu x3 p3 m3 c3)):=V fun _=>⟨p3,m3,c3,rfl,Ex.bW.map (G:=fun b=>w2.heap.size<=b) (by simp) (fun b hb hlt=>⟨⟨by have hb':w2.heap.size<=b:=hb;omega,fun e=>by have h9:=HO.out.own e;have hb':w2.heap.size<=b:=hb;omega⟩,by show(w3.heap.push _)[b]?=_;rw[Array.getElem?_push,if_neg (by omega)]⟩) _ k3⟩
     dsimp only [cu] at HY ⊢;replace HO:=V o3;replace HB:A (Bt g w w3):=V qh;replace HR:=V R3;clear b3 R3;clear r3 h3 o3 n_;have o4:bZ 41 4 jh (fun b=>w.heap.size<=b) (w3.alloc (.cells (cu x3 p3 m3 c3) 41)) (.slice p5 0 c5) []:=HO.out.up jh.map qe (af _);have c4:bT (w3.alloc (.cells (cu x3 p3 m3 c3) 41)) w3.heap.size 41 (cu x3 p3 m3 c3):=bT.new;obtain⟨v5,w5,hrun,o5,hg5⟩:=o4.app kEx jh.map P8 c4.cell (x:=x3) (HY.out o4.blk) (by simp);have B5:A (Bt g w w5):=V (bR.grown qh hg5 fun b hb=>.inl (o4.blk b hb));have R5:A (Rd L g u3 w5):=V (HR.out.low (bR.grown qe hg5 fun b hb=>.inr (by have:=o4.blk b hb;show ¬b<=g;omega)));have O5:A (bZ 41 4 jh (fun b=>w.heap.size<=b) w5 v5 [x3]):=V (o5.map jh.map (af _) fun b hb _=>⟨by
      rcases hb with hb|hb
      · exact hb
      · have e:(w3.alloc (.cells (cu x3 p3 m3 c3) 41)).heap.size=w3.heap.size+1:=by simp
        omega,rfl⟩)
     dsimp only [cu] at hrun;clear o4 c4 o5 hg5 HB HR HO HY;go_wp2_with (at_builtin;refine Lib.wpList_append_run _ rfl _ _ _ _ rfl _ _ rfl rfl _ _ hrun ?_)
     go_roundg k
     case measure=>omega
     case rel=>
      have h1:=mZ.out;have h2:=HK.out;have h3:=HN.out;have h4:=HL.out;exact⟨⟨_,u3,HS.out,by omega,by omega,by simp at h4 ⊢; omega,O5.out,R5.out⟩,B5.out⟩
    | cons y l=>
     dsimp only [EI] at HS;have wo:A (∀v,run (exp yS) u=.ok () v->Gd v/\v.length+1<=u.length):=V fun v h=>(Dn.exp (by decide):Dn 1 (exp yS)).out BN.out h;have hpos:decide ((0:Int)<(((y::l).length:Nat):Int))=true:=decide_eq_true (by have h:0<(y::l).length:=Nat.zero_lt_succ _;omega);go_wp2_with fail;refine(gW _ _ (HR.out.low qe) (by decide)).mono ?_;rintro e w3 h3;rcases h3.cases with⟨x3,u3,v3,r3,rfl,b3,V3,R3⟩|⟨u3,r3,rfl,b3⟩
     rotate_left 1
     · exact QD
     have xN:=V (wo.out _ r3);have n_:A (∀x v,run m u3=.ok x v->v.length+1<=u3.length):=V fun x v h=>(HM.out.out xN.out.1 h).2;replace HS:=bY HS r3;have s2:=HB.out.size;have s3:=b3.size;have o3:bZ 41 4 jh (fun b=>w.heap.size<=b) w3 (.slice p5 (y::l).length c5) (y::l):=HO.out.up jh.map (b3.mono fun k _ hk=>by have:w.heap.size<=k:=hk;omega) (af _);replace HO:=V o3;replace HB:A (Bt g w w3):=V qh;replace HR:=V R3;clear b3 R3;clear r3 h3 o3 wo;obtain rfl:=V3;go_wp2_with fail;refine(HC.out _ _ (HR.out.low qe) (by have h1:=xN.out.2;have h2:=HN.out;omega)).mono ?_;rintro e w4 h4;rcases h4.cases with⟨x4,u4,v4,r4,rfl,b4,V4,R4⟩|⟨u4,r4,rfl,b4⟩
     rotate_left 1
     · exact QD
     have mZ:=V (n_.out _ _ r4);replace HS:=bY HS r4;have s4:=b4.size;have yC:bZ 41 4 jh (fun b=>w.heap.size<=b) w4 (.slice p5 (y::l).length c5) (y::l):=HO.out.up jh.map (b4.mono fun k _ hk=>by have:w.heap.size<=k:=hk;omega) (af _);obtain⟨p4,m4,c4,rfl,k4⟩:=V4;have HY:A ((∀b,(Value.slice p5 (y::l).length c5).ownBlock=X b->w.heap.size<=b)->jh (fun b=>w.heap.size<=b/\¬(Value.slice p5 (y::l).length c5).ownBlock=X b) (w4.alloc (.cells (cu x4 p4 m4 c4) 41)) x4 (cu x4 p4 m4 c4)):=V fun _=>⟨p4,m4,c4,rfl,Ex.bW.map (G:=fun b=>w3.heap.size<=b) (by simp) (fun b hb hlt=>⟨⟨by have hb':w3.heap.size<=b:=hb;omega,fun e=>by have h9:=HO.out.own e;have hb':w3.heap.size<=b:=hb;omega⟩,by show(w4.heap.push _)[b]?=_;rw[Array.getElem?_push,if_neg (by omega)]⟩) _ k4⟩
     dsimp only [cu] at HY ⊢;replace HO:=V yC;replace HB:A (Bt g w w4):=V qh;replace HR:=V R4;clear b4 R4;clear r4 h4 yC n_;have o4:bZ 41 4 jh (fun b=>w.heap.size<=b) (w4.alloc (.cells (cu x4 p4 m4 c4) 41)) (.slice p5 (y::l).length c5) (y::l):=HO.out.up jh.map qe (af _);have ze:bT (w4.alloc (.cells (cu x4 p4 m4 c4) 41)) w4.heap.size 41 (cu x4 p4 m4 c4):=bT.new;obtain⟨v5,w5,hrun,o5,hg5⟩:=o4.app kEx jh.map P8 ze.cell (x:=x4) (HY.out o4.blk) (by omega);have B5:A (Bt g w w5):=V (bR.grown qh hg5 fun b hb=>.inl (o4.blk b hb));have R5:A (Rd L g u4 w5):=V (HR.out.low (bR.grown qe hg5 fun b hb=>.inr (by have:=o4.blk b hb;show ¬b<=g;omega)));have O5:A (bZ 41 4 jh (fun b=>w.heap.size<=b) w5 v5 ((y::l)++[x4])):=V (o5.map jh.map (af _) fun b hb _=>⟨by
      rcases hb with hb|hb
      · exact hb
      · have e:(w4.alloc (.cells (cu x4 p4 m4 c4) 41)).heap.size=w4.heap.size+1:=by simp
        omega,rfl⟩)
     dsimp only [cu] at hrun;clear o4 ze o5 hg5 HB HR HO HY;go_wp2_with (at_builtin;refine Lib.wpList_append_run _ rfl _ _ _ _ rfl _ _ rfl rfl _ _ hrun ?_)
     go_roundg k
     case measure=>omega
     case rel=>
      have h0:=xN.out.2;have h1:=mZ.out;have h2:=HK.out;have h3:=HN.out;have h4:=HL.out;exact⟨⟨_,u4,HS.out,by omega,by omega,by simp at h4 ⊢; omega,O5.out,R5.out⟩,B5.out⟩
end
end Ps
namespace Ps
open Ps.P (rt bd exp)
open Go.RowKit
open Lx (Tk mt)
open Ex (Ex bW)
open Sm (St dE cZ Pl cs qH zE zD BV)
open Md (Big bT)
set_option maxHeartbeats 1000000
theorem kC:Big 60 21:=⟨⟨_,Tryz.underlying60,rfl⟩,by kernel_rfl⟩
theorem gN {ops:Array Oper} {rest:List Oper} {o:Oper} {a:Act} {w W:aj} {Q:Exit->Act->aj->Prop} (hgd:o.guard=U) (ty:TypeId) (x y:Operand) (ho:o.op=.store ty x y) (g:Nat) (cells:Array ax) (hx:a.eval x=.pointer (X ⟨g,0,U⟩)) (hy:a.eval y=.agg cells) (hP:Put ty g cells w W) (h:wpList ag ops Q rest (a.put o.dst undef) W):wpList ag ops Q (o::rest) a w:=
 wpList_plain hgd fun _ hK=>by
  have h2:=hP.adr;unfold Oper.wp execOp;simp only[ho,hx,hy,h2,Sem.run_bind,Sem.run_pure,Result.andThen_ok];exact hK _ _ h
def xS (lo:Nat) (w:aj) (x:St) (v:ax):Prop:=∃P,v=.agg (cs x P)/\cZ (fun b=>lo<=b) w x P
def P0:Pl:=⟨U,0,0,U,0,0,U,0,0,U,0,0,U,0,0,U,0,0,U,0,0⟩
def yY (p:Option Addr) (m c:Nat):Pl:=⟨p,m,c,U,0,0,U,0,0,U,0,0,U,0,0,U,0,0,U,0,0⟩
section
variable {G:Nat->Prop} {w:aj}
theorem apo {e:Ex} {p:Option Addr} {m c:Nat} (h:bW G w e p m):BV G w e zE [] zD (yY p m c):=⟨h,Ex.bW.zero,Ex.bW.zero,nA,nA⟩
theorem Dq {o:Int} {nm f:ByteArray} {e:Ex} {b:Bool} {p:Option Addr} {m c:Nat} (h:bW G w e p m):cZ G w (.mk o nm f e zE [] zD b [] []) (yY p m c):=qH.2 ⟨apo h,Sm.dE.nil,Sm.dE.nil⟩
end
section
variable {L:Lk} {g:Nat} {t:List Tk}
theorem Fy {p:Prop} (h:p:=by
 have bU:=HB.out;go_wp2_with fail;exact⟨rfl,PO.no (dJ HS (by assumption)) qe⟩
 ):p:=h
theorem XN {p:Prop} (h:p:=by have hb':_<=b:=hb;first|(simp at hb';omega)|omega):p:=h
set_option maxRecDepth 100000 in
theorem Gi (o:Int) (w:aj) (hR:Rd L g t w):Calls ag 133 #[.pointer (X ⟨g,0,U⟩),.int .i64 o] w (PO L g xS (run (qZ o) t) w):=by
 obtain⟨r,hr⟩:∃r,run (qZ o) t=r:=⟨_,rfl⟩
 rw[hr];have HS:=V hr;have hg:=hR.blk;have HR:=V hR;have HB:A (Bt g w w):=V (bR.refl _ _);clear hR hr;have Z:=V (bT.new (w:=w) (t:=60) (c:=#[.int .i64 0,.string ⟨#[]⟩,.string ⟨#[]⟩,.int .i64 0,.string ⟨#[]⟩,.int .i64 0,.slice U 0 0,.int .i64 0,.string ⟨#[]⟩,.int .i64 0,.slice U 0 0,.slice U 0 0,.int .i64 0,.int .i64 0,.int .i64 0,.int .i64 0,.slice U 0 0,.slice U 0 0,.bool false,.slice U 0 0,.slice U 0 0]));go_enter Tryz.func133,Tryz.ntmps133;go_wp2_with fail;refine(jR _ (HR.out.low qe)).mono ?_;rintro e w1 h1;rcases h1.cases with⟨x1,u1,v1,r1,rfl,b1,V1,R1⟩|⟨u1,r1,rfl,b1⟩
 rotate_left 1
 · exact Fy
 replace HS:=bY HS r1;replace Z:=V (bS (w2:=w1) Z.out qe);replace HB:A (Bt g w w1):=V qh;replace HR:=V R1;clear b1 R1;clear r1 h1;obtain rfl:=V1;have hz1:=Z.out.lt;go_wp2_with fail;refine(BD _ (HR.out.low qe)).mono ?_;rintro e w2 h2;rcases h2.cases with⟨x2,u2,v2,r2,rfl,b2,V2,R2⟩|⟨u2,r2,rfl,b2⟩
 rotate_left 1
 · exact Fy
 replace HS:=bY HS r2;replace Z:=V (bS (w2:=w2) Z.out qe);replace HB:A (Bt g w w2):=V qh;replace HR:=V R2;clear b2 R2;clear r2 h2;obtain⟨p2,m2,c2,rfl,k2⟩:=V2;have jJ:A (bW (fun b=>w.heap.size<b) w2 x2 p2 m2):=V (k2.mono fun b hb hlt=>XN);clear k2;dsimp only [cu];obtain⟨W,hP⟩:=gM (c:=#[.int .i64 o,.string x1,.string ⟨#[]⟩,.int .i64 x2.o,.string x2.s,.int .i64 x2.n,.slice p2 m2 c2,.int .i64 0,.string ⟨#[]⟩,.int .i64 0,.slice U 0 0,.slice U 0 0,.int .i64 0,.int .i64 0,.int .i64 0,.int .i64 0,.slice U 0 0,.slice U 0 0,.bool false,.slice U 0 0,.slice U 0 0]) Z.out kC (by simp[av]) rfl;have gY:=hP.bt;have eT:=V hP.box;have gZ:=hP.size;go_wp2_with (refine gN rfl 60 _ _ rfl w.heap.size _ rfl rfl hP ?_)
 have bU:=HB.out;refine ak (v:=.agg (cs (dD o x1 mt x2) (yY p2 m2 c2))) ?_ rfl (PO.ok (dA HS) qe ⟨(yY p2 m2 c2),rfl,Dq (gX jJ.out qe)⟩ (HR.out.low qe));exact au rfl _ _ w.heap.size 60 _ (0,0) _ rfl eT.out Tryz.underlying60 rfl (by kernel_rfl)
set_option maxRecDepth 100000 in
theorem aq2 (w:aj) (hR:Rd L g t w):Calls ag 128 #[.pointer (X ⟨g,0,U⟩)] w (PO L g xS (run (bd fP fun s=>bd (exp BK) fun _=>bd kF fun e=>rt (dD 1 s mt e)) t) w):=by
 obtain⟨r,hr⟩:∃r,run (bd fP fun s=>bd (exp BK) fun _=>bd kF fun e=>rt (dD 1 s mt e)) t=r:=⟨_,rfl⟩
 rw[hr];have HS:=V hr;have hg:=hR.blk;have HR:=V hR;have HB:A (Bt g w w):=V (bR.refl _ _);clear hR hr;have Z:=V (bT.new (w:=w) (t:=60) (c:=#[.int .i64 0,.string ⟨#[]⟩,.string ⟨#[]⟩,.int .i64 0,.string ⟨#[]⟩,.int .i64 0,.slice U 0 0,.int .i64 0,.string ⟨#[]⟩,.int .i64 0,.slice U 0 0,.slice U 0 0,.int .i64 0,.int .i64 0,.int .i64 0,.int .i64 0,.slice U 0 0,.slice U 0 0,.bool false,.slice U 0 0,.slice U 0 0]));go_enter Tryz.func128,Tryz.ntmps128;go_wp2_with fail;refine(jR _ (HR.out.low qe)).mono ?_;rintro e w1 h1;rcases h1.cases with⟨x1,u1,v1,r1,rfl,b1,V1,R1⟩|⟨u1,r1,rfl,b1⟩
 rotate_left 1
 · exact Fy
 replace HS:=bY HS r1;replace Z:=V (bS (w2:=w1) Z.out qe);replace HB:A (Bt g w w1):=V qh;replace HR:=V R1;clear b1 R1;clear r1 h1;obtain rfl:=V1;have hz1:=Z.out.lt;go_wp2_with fail;refine(gW _ _ (HR.out.low qe) (by decide)).mono ?_;rintro e w3 h3;rcases h3.cases with⟨x3,u3,v3,r3,rfl,b3,V3,R3⟩|⟨u3,r3,rfl,b3⟩
 rotate_left 1
 · exact Fy
 replace HS:=bY HS r3;replace Z:=V (bS (w2:=w3) Z.out qe);replace HB:A (Bt g w w3):=V qh;replace HR:=V R3;clear b3 R3;clear r3 h3;obtain rfl:=V3;have hz3:=Z.out.lt;go_wp2_with fail;refine(BD _ (HR.out.low qe)).mono ?_;rintro e w2 h2;rcases h2.cases with⟨x2,u2,v2,r2,rfl,b2,V2,R2⟩|⟨u2,r2,rfl,b2⟩
 rotate_left 1
 · exact Fy
 replace HS:=bY HS r2;replace Z:=V (bS (w2:=w2) Z.out qe);replace HB:A (Bt g w w2):=V qh;replace HR:=V R2;clear b2 R2;clear r2 h2;obtain⟨p2,m2,c2,rfl,k2⟩:=V2;have jJ:A (bW (fun b=>w.heap.size<b) w2 x2 p2 m2):=V (k2.mono fun b hb hlt=>XN);clear k2;dsimp only [cu];obtain⟨W,hP⟩:=gM (c:=#[.int .i64 1,.string x1,.string ⟨#[]⟩,.int .i64 x2.o,.string x2.s,.int .i64 x2.n,.slice p2 m2 c2,.int .i64 0,.string ⟨#[]⟩,.int .i64 0,.slice U 0 0,.slice U 0 0,.int .i64 0,.int .i64 0,.int .i64 0,.int .i64 0,.slice U 0 0,.slice U 0 0,.bool false,.slice U 0 0,.slice U 0 0]) Z.out kC (by simp[av]) rfl;have gY:=hP.bt;have eT:=V hP.box;have gZ:=hP.size;go_wp2_with (refine gN rfl 60 _ _ rfl w.heap.size _ rfl rfl hP ?_)
 have bU:=HB.out;refine ak (v:=.agg (cs (dD 1 x1 mt x2) (yY p2 m2 c2))) ?_ rfl (PO.ok (dA HS) qe ⟨(yY p2 m2 c2),rfl,Dq (gX jJ.out qe)⟩ (HR.out.low qe));exact au rfl _ _ w.heap.size 60 _ (0,0) _ rfl eT.out Tryz.underlying60 rfl (by kernel_rfl)
set_option maxRecDepth 100000 in
theorem aab (w:aj) (hR:Rd L g t w):Calls ag 169 #[.pointer (X ⟨g,0,U⟩)] w (PO L g VX (run cnd t) w):=by
 obtain⟨r,hr⟩:∃r,run cnd t=r:=⟨_,rfl⟩
 rw[hr];have HS:=V hr;have hg:=hR.blk;have HR:=V hR;have HB:A (Bt g w w):=V (bR.refl _ _);clear hR hr;have Z:=V (bT.new (w:=w) (t:=41) (c:=#[.int .i64 0,.string ⟨#[]⟩,.int .i64 0,.slice U 0 0]));go_enter Tryz.func169,Tryz.ntmps169;go_wp2_with fail;have hz0:=Z.out.lt;refine(BD _ (HR.out.low qe)).mono ?_;rintro e w1 h1;rcases h1.cases with⟨x1,u1,v1,r1,rfl,b1,V1,R1⟩|⟨u1,r1,rfl,b1⟩
 rotate_left 1
 · exact Fy
 replace HS:=bY HS r1;replace Z:=V (bS (w2:=w1) Z.out qe);replace HB:A (Bt g w w1):=V qh;replace HR:=V R1;clear b1 R1;clear r1 h1;obtain⟨p1,m1,c1,rfl,k1⟩:=V1;have eB:A (bW (fun b=>w.heap.size<b) w1 x1 p1 m1):=V (k1.mono fun b hb hlt=>XN);clear k1;dsimp only [cu];have Y:=V (bT.new (w:=w1) (t:=41) (c:=cu x1 p1 m1 c1));dsimp only [cu] at Y;have hz1:=Z.out.lt;go_wp2_with fail;refine(mg _ (HR.out.low qe)).mono ?_;rintro e w2 h2;rcases h2.cases with⟨x2,u2,v2,r2,rfl,b2,V2,R2⟩|⟨u2,r2,rfl,b2⟩
 rotate_left 1
 · exact Fy
 replace HS:=bY HS r2;replace Z:=V (bS (w2:=w2) Z.out qe);replace Y:=V (bS (w2:=w2) Y.out qe);replace eB:=V (jB (w2:=w2) eB.out qe);replace HB:A (Bt g w w2):=V qh;replace HR:=V R2;clear b2 R2;clear r2 h2;obtain rfl:=V2;have l0:ae _ ⟨_,0,U⟩=X (.int .i64 x1.o):=Y.out.get rfl;have l1:ae _ ⟨_,1,U⟩=X (.string x1.s):=Y.out.get rfl;have l2:ae _ ⟨_,2,U⟩=X (.int .i64 x1.n):=Y.out.get rfl;have l3:ae _ ⟨_,3,U⟩=X (.slice p1 m1 c1):=Y.out.get rfl;have y0:ae _ ⟨_,0,U⟩=X (.int .i64 0):=Z.out.get rfl;have y1:ae _ ⟨_,1,U⟩=X (.string ⟨#[]⟩):=Z.out.get rfl;have y2:ae _ ⟨_,2,U⟩=X (.int .i64 0):=Z.out.get rfl;have y3:ae _ ⟨_,3,U⟩=X (.slice U 0 0):=Z.out.get rfl;have fz:∀i,ai _ ⟨_,i,U⟩=false:=fun i=>df (i:=i) Z.out;go_wp2_with fail;have bU:=HB.out;refine ak (v:=.agg (cu (x1) (p1) m1 c1)) ?_ rfl (PO.ok (dA HS) qe ⟨(p1),m1,c1,rfl,?_⟩ (HR.out.low qe))
 · exact au rfl _ _ w.heap.size 41 _ (0,0) _ rfl (lu Z.out rfl) Tryz.underlying41 rfl (by kernel_rfl)
 · have KK:=eB.out;exact gX KK qe
end
end Ps
namespace Ps
open Go.RowKit
open Lx (Tk)
open Ex (Ex bW)
open Sm (dE cZ Pl cs qH zE zD nE)
open Md (bT)
set_option maxHeartbeats 1000000
def cB (o:Int) (nm f:ByteArray) (e:Ex) (ep:Option Addr) (em ec:Nat) (ap:Option Addr) (am ac:Nat):Array ax:=#[.int .i64 o,.string nm,.string f,.int .i64 e.o,.string e.s,.int .i64 e.n,.slice ep em ec,.int .i64 0,.string ⟨#[]⟩,.int .i64 0,.slice U 0 0,.slice ap am ac,.int .i64 0,.int .i64 0,.int .i64 0,.int .i64 0,.slice U 0 0,.slice U 0 0,.bool false,.slice U 0 0,.slice U 0 0]
def PB (ep:Option Addr) (em ec:Nat) (ap:Option Addr) (am ac:Nat):Pl:=⟨ep,em,ec,U,0,0,ap,am,ac,U,0,0,U,0,0,U,0,0,U,0,0⟩
section
variable {L:Lk} {g:Nat} {t:List Tk}
theorem QF {p:Prop} (h:p:=by
 have bU:=HB.out;go_wp2_with fail;exact⟨rfl,PO.no (dJ HS (by assumption)) qe⟩
 ):p:=h
theorem H_ {p:Prop} (h:p:=by first|(left;simp;done)|(left;simp;omega)|(right;simp;done)|(right;simp;omega)):p:=h
set_option maxRecDepth 100000 in
theorem ZK (o:Int) (f:ByteArray) (w:aj) (hR:Rd L g t w):Calls ag 135 #[.pointer (X ⟨g,0,U⟩),.agg #[.int .i64 o,.string ⟨#[]⟩,.string f,.int .i64 0,.string ⟨#[]⟩,.int .i64 0,.slice U 0 0,.int .i64 0,.string ⟨#[]⟩,.int .i64 0,.slice U 0 0,.slice U 0 0,.int .i64 0,.int .i64 0,.int .i64 0,.int .i64 0,.slice U 0 0,.slice U 0 0,.bool false,.slice U 0 0,.slice U 0 0]] w (PO L g xS (run (y8 o f) t) w):=by
 obtain⟨r,hr⟩:∃r,run (y8 o f) t=r:=⟨_,rfl⟩
 rw[hr];have HS:=V hr;have hg:=hR.blk;have HR:=V hR;have HB:A (Bt g w w):=V (bR.refl _ _);clear hR hr;have Y:=V (bS (w2:=(w.alloc (.cells #[.int .i64 o,.string ⟨#[]⟩,.string f,.int .i64 0,.string ⟨#[]⟩,.int .i64 0,.slice U 0 0,.int .i64 0,.string ⟨#[]⟩,.int .i64 0,.slice U 0 0,.slice U 0 0,.int .i64 0,.int .i64 0,.int .i64 0,.int .i64 0,.slice U 0 0,.slice U 0 0,.bool false,.slice U 0 0,.slice U 0 0] 60)).alloc (.cells #[.int .i64 0,.string ⟨#[]⟩,.string ⟨#[]⟩,.int .i64 0,.string ⟨#[]⟩,.int .i64 0,.slice U 0 0,.int .i64 0,.string ⟨#[]⟩,.int .i64 0,.slice U 0 0,.slice U 0 0,.int .i64 0,.int .i64 0,.int .i64 0,.int .i64 0,.slice U 0 0,.slice U 0 0,.bool false,.slice U 0 0,.slice U 0 0] 60)) (bT.new (w:=w) (t:=60) (c:=#[.int .i64 o,.string ⟨#[]⟩,.string f,.int .i64 0,.string ⟨#[]⟩,.int .i64 0,.slice U 0 0,.int .i64 0,.string ⟨#[]⟩,.int .i64 0,.slice U 0 0,.slice U 0 0,.int .i64 0,.int .i64 0,.int .i64 0,.int .i64 0,.slice U 0 0,.slice U 0 0,.bool false,.slice U 0 0,.slice U 0 0])) qe);have z0:bT ((w.alloc (.cells #[.int .i64 o,.string ⟨#[]⟩,.string f,.int .i64 0,.string ⟨#[]⟩,.int .i64 0,.slice U 0 0,.int .i64 0,.string ⟨#[]⟩,.int .i64 0,.slice U 0 0,.slice U 0 0,.int .i64 0,.int .i64 0,.int .i64 0,.int .i64 0,.slice U 0 0,.slice U 0 0,.bool false,.slice U 0 0,.slice U 0 0] 60)).alloc (.cells #[.int .i64 0,.string ⟨#[]⟩,.string ⟨#[]⟩,.int .i64 0,.string ⟨#[]⟩,.int .i64 0,.slice U 0 0,.int .i64 0,.string ⟨#[]⟩,.int .i64 0,.slice U 0 0,.slice U 0 0,.int .i64 0,.int .i64 0,.int .i64 0,.int .i64 0,.slice U 0 0,.slice U 0 0,.bool false,.slice U 0 0,.slice U 0 0] 60)) (w.heap.size+1) 60 #[.int .i64 0,.string ⟨#[]⟩,.string ⟨#[]⟩,.int .i64 0,.string ⟨#[]⟩,.int .i64 0,.slice U 0 0,.int .i64 0,.string ⟨#[]⟩,.int .i64 0,.slice U 0 0,.slice U 0 0,.int .i64 0,.int .i64 0,.int .i64 0,.int .i64 0,.slice U 0 0,.slice U 0 0,.bool false,.slice U 0 0,.slice U 0 0]:=by
  have h:=bT.new (w:=w.alloc (.cells #[.int .i64 o,.string ⟨#[]⟩,.string f,.int .i64 0,.string ⟨#[]⟩,.int .i64 0,.slice U 0 0,.int .i64 0,.string ⟨#[]⟩,.int .i64 0,.slice U 0 0,.slice U 0 0,.int .i64 0,.int .i64 0,.int .i64 0,.int .i64 0,.slice U 0 0,.slice U 0 0,.bool false,.slice U 0 0,.slice U 0 0] 60)) (t:=60) (c:=#[.int .i64 0,.string ⟨#[]⟩,.string ⟨#[]⟩,.int .i64 0,.string ⟨#[]⟩,.int .i64 0,.slice U 0 0,.int .i64 0,.string ⟨#[]⟩,.int .i64 0,.slice U 0 0,.slice U 0 0,.int .i64 0,.int .i64 0,.int .i64 0,.int .i64 0,.slice U 0 0,.slice U 0 0,.bool false,.slice U 0 0,.slice U 0 0]);rwa [show(w.alloc (.cells #[.int .i64 o,.string ⟨#[]⟩,.string f,.int .i64 0,.string ⟨#[]⟩,.int .i64 0,.slice U 0 0,.int .i64 0,.string ⟨#[]⟩,.int .i64 0,.slice U 0 0,.slice U 0 0,.int .i64 0,.int .i64 0,.int .i64 0,.int .i64 0,.slice U 0 0,.slice U 0 0,.bool false,.slice U 0 0,.slice U 0 0] 60)).heap.size=w.heap.size+1 by simp] at h
 have Z:=V z0;clear z0;go_enter Tryz.func135,Tryz.ntmps135;go_wp2_with fail;refine(jR _ (HR.out.low qe)).mono ?_;rintro e w1 h1;rcases h1.cases with⟨x1,u1,v1,r1,rfl,b1,V1,R1⟩|⟨u1,r1,rfl,b1⟩
 rotate_left 1
 · exact QF
 replace HS:=bY HS r1;replace Z:=V (bS (w2:=w1) Z.out qe);replace Y:=V (bS (w2:=w1) Y.out qe);replace HB:A (Bt g w w1):=V qh;replace HR:=V R1;clear b1 R1;clear r1 h1;obtain rfl:=V1;have hz1:=Z.out.lt;have l1:ae _ ⟨_,1,U⟩=X (.string ⟨#[]⟩):=Y.out.get rfl;have fy:∀i,ai _ ⟨_,i,U⟩=false:=fun i=>df (i:=i) Y.out;go_wp2_with fail;replace Y:=V (fq (i:=1) (v:=.string x1) Y.out);replace Z:=V (bS (w2:=ah w1 ⟨w.heap.size,1,U⟩ (.string x1)) Z.out qe);replace HR:=V (HR.out.low (w2:=ah w1 ⟨w.heap.size,1,U⟩ (.string x1)) qe);replace HB:=V (bR.set (p:=⟨w.heap.size,1,U⟩) (v:=.string x1) HB.out H_);clear l1 fy;refine(an8 53 kF Gt _ (HR.out.low qe) (fun _ _=>rfl) (fun W u hW _=>BD W hW)).mono ?_;rintro e w3 h3;rcases h3.cases with⟨x3,u3,v3,r3,rfl,b3,V3,R3⟩|⟨u3,r3,rfl,b3⟩
 rotate_left 1
 · exact QF
 replace HS:=bY HS r3;replace Z:=V (bS (w2:=w3) Z.out qe);replace Y:=V (bS (w2:=w3) Y.out qe);replace HB:A (Bt g w w3):=V qh;replace HR:=V R3;clear b3 R3;clear r3 h3;obtain⟨p3,m3,c3,rfl,k3⟩:=V3;have KA:A (bW (fun b=>w.heap.size+1<b) w3 (.mk 0 nE 0 x3) p3 m3):=V (UD.2 (k3.map jh.map (af _) fun b hb _=>⟨by
  have hb':_<=b:=hb;simp at hb'
  omega,rfl⟩))
 clear k3;have hz3:=Z.out.lt;have l2:ae _ ⟨_,11,U⟩=X (.slice U 0 0):=Y.out.get rfl;have fy:∀i,ai _ ⟨_,i,U⟩=false:=fun i=>df (i:=i) Y.out;go_wp2_with fail;replace Y:=V (fq (i:=11) (v:=.slice p3 m3 c3) Y.out);replace Z:=V (bS (w2:=ah w3 ⟨w.heap.size,11,U⟩ (.slice p3 m3 c3)) Z.out qe);replace HR:=V (HR.out.low (w2:=ah w3 ⟨w.heap.size,11,U⟩ (.slice p3 m3 c3)) qe);replace HB:=V (bR.set (p:=⟨w.heap.size,11,U⟩) (v:=.slice p3 m3 c3) HB.out H_);replace KA:=V (Ex.bW.map (w2:=w3.setCell ⟨w.heap.size,11,U⟩ (.slice p3 m3 c3)) (by simp) (fun b hb hlt=>⟨hb,bR.block (S:=fun b=>w.heap.size+1<b) qe b hlt hb⟩) _ KA.out);clear l2 fy;refine(gW _ _ (HR.out.low qe) (by decide)).mono ?_;rintro e w4 h4;rcases h4.cases with⟨x4,u4,v4,r4,rfl,b4,V4,R4⟩|⟨u4,r4,rfl,b4⟩
 rotate_left 1
 · exact QF
 replace HS:=bY HS r4;replace Z:=V (bS (w2:=w4) Z.out qe);replace Y:=V (bS (w2:=w4) Y.out qe);replace KA:=V (Ex.bW.map (w2:=w4) b4.size (fun b hb hlt=>⟨hb,bR.block (S:=fun b=>w.heap.size+1<b) qe b hlt hb⟩) _ KA.out);replace HB:A (Bt g w w4):=V qh;replace HR:=V R4;clear b4 R4;clear r4 h4;obtain rfl:=V4;have sH:=Z.out.lt;go_wp2_with fail;refine(BD _ (HR.out.low qe)).mono ?_;rintro e w5 h5;rcases h5.cases with⟨x5,u5,v5,r5,rfl,b5,V5,R5⟩|⟨u5,r5,rfl,b5⟩
 rotate_left 1
 · exact QF
 replace HS:=bY HS r5;replace Z:=V (bS (w2:=w5) Z.out qe);replace Y:=V (bS (w2:=w5) Y.out qe);replace KA:=V (Ex.bW.map (w2:=w5) b5.size (fun b hb hlt=>⟨hb,bR.block (S:=fun b=>w.heap.size+1<b) qe b hlt hb⟩) _ KA.out);replace HB:A (Bt g w w5):=V qh;replace HR:=V R5;clear b5 R5;clear r5 h5;obtain⟨p5,m5,c5,rfl,k5⟩:=V5;have KX:A (bW (fun b=>w.heap.size+1<b) w5 x5 p5 m5):=V (k5.mono fun b hb hlt=>by
  have hb':w4.heap.size<=b:=hb;omega)
 clear k5;dsimp only [cu];have l3:ae _ ⟨_,3,U⟩=X (.int .i64 0):=Y.out.get rfl;have l4:ae _ ⟨_,4,U⟩=X (.string ⟨#[]⟩):=Y.out.get rfl;have l5:ae _ ⟨_,5,U⟩=X (.int .i64 0):=Y.out.get rfl;have l6:ae _ ⟨_,6,U⟩=X (.slice U 0 0):=Y.out.get rfl;have fy:∀i,ai _ ⟨_,i,U⟩=false:=fun i=>df (i:=i) Y.out;replace Y:=V (fq (i:=3) (v:=.int .i64 x5.o) Y.out);replace Z:=V (bS (w2:=ah w5 ⟨w.heap.size,3,U⟩ (.int .i64 x5.o)) Z.out qe);replace HR:=V (HR.out.low (w2:=ah w5 ⟨w.heap.size,3,U⟩ (.int .i64 x5.o)) qe);replace HB:=V (bR.set (p:=⟨w.heap.size,3,U⟩) (v:=.int .i64 x5.o) HB.out H_);replace Y:=V (fq (i:=4) (v:=.string x5.s) Y.out);replace Z:=V (bS (w2:=ah (w5.setCell ⟨w.heap.size,3,U⟩ (.int .i64 x5.o)) ⟨w.heap.size,4,U⟩ (.string x5.s)) Z.out qe);replace HR:=V (HR.out.low (w2:=ah (w5.setCell ⟨w.heap.size,3,U⟩ (.int .i64 x5.o)) ⟨w.heap.size,4,U⟩ (.string x5.s)) qe);replace HB:=V (bR.set (p:=⟨w.heap.size,4,U⟩) (v:=.string x5.s) HB.out H_);replace Y:=V (fq (i:=5) (v:=.int .i64 x5.n) Y.out);replace Z:=V (bS (w2:=ah ((w5.setCell ⟨w.heap.size,3,U⟩ (.int .i64 x5.o)).setCell ⟨w.heap.size,4,U⟩ (.string x5.s)) ⟨w.heap.size,5,U⟩ (.int .i64 x5.n)) Z.out qe);replace HR:=V (HR.out.low (w2:=ah ((w5.setCell ⟨w.heap.size,3,U⟩ (.int .i64 x5.o)).setCell ⟨w.heap.size,4,U⟩ (.string x5.s)) ⟨w.heap.size,5,U⟩ (.int .i64 x5.n)) qe);replace HB:=V (bR.set (p:=⟨w.heap.size,5,U⟩) (v:=.int .i64 x5.n) HB.out H_);replace Y:=V (fq (i:=6) (v:=.slice p5 m5 c5) Y.out);replace Z:=V (bS (w2:=ah (((w5.setCell ⟨w.heap.size,3,U⟩ (.int .i64 x5.o)).setCell ⟨w.heap.size,4,U⟩ (.string x5.s)).setCell ⟨w.heap.size,5,U⟩ (.int .i64 x5.n)) ⟨w.heap.size,6,U⟩ (.slice p5 m5 c5)) Z.out qe);replace HR:=V (HR.out.low (w2:=ah (((w5.setCell ⟨w.heap.size,3,U⟩ (.int .i64 x5.o)).setCell ⟨w.heap.size,4,U⟩ (.string x5.s)).setCell ⟨w.heap.size,5,U⟩ (.int .i64 x5.n)) ⟨w.heap.size,6,U⟩ (.slice p5 m5 c5)) qe);replace HB:=V (bR.set (p:=⟨w.heap.size,6,U⟩) (v:=.slice p5 m5 c5) HB.out H_);replace Y:A (bT ((((w5.setCell ⟨w.heap.size,3,U⟩ (.int .i64 x5.o)).setCell ⟨w.heap.size,4,U⟩ (.string x5.s)).setCell ⟨w.heap.size,5,U⟩ (.int .i64 x5.n)).setCell ⟨w.heap.size,6,U⟩ (.slice p5 m5 c5)) w.heap.size 60 (cB o x1 f x5 p5 m5 c5 p3 m3 c3)):=V Y.out;have KK:A (∀W,bR (fun b=>w.heap.size+1<b) w5 W->cZ (fun b=>w.heap.size<=b) W (.mk o x1 f x5 zE x3 zD false [] []) (PB p5 m5 c5 p3 m3 c3)):=V fun W q=>by
  have hk:∀b,(fun b=>w.heap.size+1<b) b->b<w5.heap.size->(fun b=>w.heap.size<=b) b/\W.heap[b]?=w5.heap[b]?:=fun b hb hlt=>⟨by show w.heap.size<=b;have hb':w.heap.size+1<b:=hb;omega,q.block b hlt hb⟩
  exact qH.2 ⟨⟨Ex.bW.map q.size hk _ KX.out,Ex.bW.zero,Ex.bW.map q.size hk _ KA.out,nA,nA⟩,Sm.dE.nil,Sm.dE.nil⟩
 clear KX KA;dsimp only [cB] at Y;obtain⟨W,hP⟩:=gM (c:=cB o x1 f x5 p5 m5 c5 p3 m3 c3) Z.out kC (by unfold cB;simp[av]) rfl;have gY:=hP.bt;have eT:=V hP.box;have gZ:=hP.size;dsimp only [cB] at hP;go_wp2_with (first|(refine wpList_load_row rfl 60 _ rfl _ rfl 60 _ (0,0) _ Y.out Tryz.underlying60 rfl (by kernel_rfl) ?_)|(refine gN rfl 60 _ _ rfl (w.heap.size+1) _ rfl rfl hP ?_))
 have bU:=HB.out;refine ak (v:=.agg (cs (.mk o x1 f x5 zE x3 zD false [] []) (PB p5 m5 c5 p3 m3 c3))) ?_ rfl (PO.ok (dA HS) qe ⟨(PB p5 m5 c5 p3 m3 c3),rfl,KK.out _ qe⟩ (HR.out.low qe));exact au rfl _ _ (w.heap.size+1) 60 _ (0,0) _ rfl eT.out Tryz.underlying60 rfl (by kernel_rfl)
end
end Ps
namespace Ps
open Ps.P (bd exp)
open Go.RowKit
open Lx (Tk)
open Sm (St cZ Pl cs)
open Md (bT)
set_option maxHeartbeats 1000000
theorem uz {a:Nat} {w w2:aj} {x:St} {P:Pl} (h:cZ (fun b=>a<b) w x P) (hb:bR (fun b=>a<b) w w2):cZ (fun b=>a<=b) w2 x P:=by
 have hk:∀b,(fun b=>a<b) b->b<w.heap.size->(fun b=>a<=b) b/\w2.heap[b]?=w.heap[b]?:=fun b hg hlt=>⟨Nat.le_of_lt hg,hb.block b hlt hg⟩
 exact Sm.cZ.map hb.size hk x h
theorem aoP (z c:Array ax) (hz:z.size=21) (hc:c.size=21) (h1:c.all (·.oneCell')=true) (w:aj):(Instr.storeAt 60 (.pointer (X ⟨w.heap.size,0,U⟩)) (.agg c)).run ag (w.alloc (.cells z 60))=.ok () (w.alloc (.cells c 60)):=
 run_storeAt_new w _ _ _ (by rw[hc];kernel_rfl) (hz.trans hc.symm) h1
theorem Qp {ops:Array Oper} {rest:List Oper} {o:Oper} {a:Act} {w:aj} {Q:Exit->Act->aj->Prop} (hgd:o.guard=U) (x y:Operand) (ho:o.op=.store 60 x y) (z cells:Array ax) (hx:a.eval x=.pointer (X ⟨w.heap.size,0,U⟩)) (hy:a.eval y=.agg cells) (hz:z.size=21) (hc:cells.size=21) (h1:cells.all (·.oneCell')=true) (h:wpList ag ops Q rest (a.put o.dst undef) (w.alloc (.cells cells 60))):wpList ag ops Q (o::rest) a (w.alloc (.cells z 60)):=
 wpList_plain hgd fun _ hK=>by
  have h2:=aoP z cells hz hc h1 w;unfold Oper.wp execOp;simp only[ho,hx,hy,h2,Sem.run_bind,Sem.run_pure,Result.andThen_ok];exact hK _ _ h
section
variable {L:Lk} {g:Nat} {t:List Tk}
set_option maxRecDepth 100000 in
theorem aqX (w:aj) (hR:Rd L g t w):Calls ag 134 #[.pointer (X ⟨g,0,U⟩)] w (PO L g xS (run (bd fP fun f=>bd (exp XW) fun _=>y8 13 f) t) w):=by
 obtain⟨r,hr⟩:∃r,run (bd fP fun f=>bd (exp XW) fun _=>y8 13 f) t=r:=⟨_,rfl⟩
 rw[hr];have HS:=V hr;have hg:=hR.blk;have HR:=V hR;have HB:A (Bt g w w):=V (bR.refl _ _);clear hR hr;have Z:=V (bT.new (w:=w) (t:=60) (c:=#[.int .i64 0,.string ⟨#[]⟩,.string ⟨#[]⟩,.int .i64 0,.string ⟨#[]⟩,.int .i64 0,.slice U 0 0,.int .i64 0,.string ⟨#[]⟩,.int .i64 0,.slice U 0 0,.slice U 0 0,.int .i64 0,.int .i64 0,.int .i64 0,.int .i64 0,.slice U 0 0,.slice U 0 0,.bool false,.slice U 0 0,.slice U 0 0]));go_enter Tryz.func134,Tryz.ntmps134;go_wp2_with fail;refine(jR _ (HR.out.low qe)).mono ?_;rintro e w1 h1;rcases h1.cases with⟨x1,u1,v1,r1,rfl,b1,V1,R1⟩|⟨u1,r1,rfl,b1⟩
 rotate_left 1
 · have bU:=HB.out;go_wp2_with fail;exact⟨rfl,PO.no (dJ HS (by assumption)) qe⟩
 replace HS:=bY HS r1;replace Z:=V (bS (w2:=w1) Z.out qe);replace HB:A (Bt g w w1):=V qh;replace HR:=V R1;clear b1 R1;clear r1 h1;obtain rfl:=V1;have hz1:=Z.out.lt;have Y:=V (bT.new (w:=w1) (t:=60) (c:=#[.int .i64 13,.string ⟨#[]⟩,.string x1,.int .i64 0,.string ⟨#[]⟩,.int .i64 0,.slice U 0 0,.int .i64 0,.string ⟨#[]⟩,.int .i64 0,.slice U 0 0,.slice U 0 0,.int .i64 0,.int .i64 0,.int .i64 0,.int .i64 0,.slice U 0 0,.slice U 0 0,.bool false,.slice U 0 0,.slice U 0 0]));go_wp2_with (refine Qp rfl _ _ rfl _ #[.int .i64 13,.string ⟨#[]⟩,.string x1,.int .i64 0,.string ⟨#[]⟩,.int .i64 0,.slice U 0 0,.int .i64 0,.string ⟨#[]⟩,.int .i64 0,.slice U 0 0,.slice U 0 0,.int .i64 0,.int .i64 0,.int .i64 0,.int .i64 0,.slice U 0 0,.slice U 0 0,.bool false,.slice U 0 0,.slice U 0 0] rfl rfl rfl rfl (by simp[av]) ?_)
 refine(gW _ _ (HR.out.low qe) (by decide)).mono ?_;rintro e w3 h3;rcases h3.cases with⟨x3,u3,v3,r3,rfl,b3,V3,R3⟩|⟨u3,r3,rfl,b3⟩
 rotate_left 1
 · have bU:=HB.out;go_wp2_with fail;exact⟨rfl,PO.no (dJ HS (by assumption)) qe⟩
 replace HS:=bY HS r3;replace Z:=V (bS (w2:=w3) Z.out qe);replace Y:=V (bS (w2:=w3) Y.out qe);replace HB:A (Bt g w w3):=V qh;replace HR:=V R3;clear b3 R3;clear r3 h3;obtain rfl:=V3;go_wp2_with (refine wpList_load_row rfl 60 _ rfl _ rfl 60 _ (0,0) _ Y.out Tryz.underlying60 rfl (by kernel_rfl) ?_)
 have sH:=Z.out.lt;refine(ZK 13 x1 _ (HR.out.low qe)).mono ?_;rintro e w4 h4;rcases h4.cases with⟨x4,u4,v4,r4,rfl,b4,V4,R4⟩|⟨u4,r4,rfl,b4⟩
 rotate_left 1
 · have bU:=HB.out;go_wp2_with fail;exact⟨rfl,PO.no (HS.out.symm.trans r4) qe⟩
 have FM:=V (HS.out.symm.trans r4);replace Z:=V (bS (w2:=w4) Z.out qe);replace HB:A (Bt g w w4):=V qh;replace HR:=V R4;clear b4 R4;clear r4 h4;obtain⟨P4,rfl,k4⟩:=V4;have KS4:A (cZ (fun b=>w.heap.size<b) w4 x4 P4):=V (k4.mono fun b hb hlt=>(by have hb':_<=b:=hb;first|(simp at hb';omega)|omega));clear k4;obtain⟨W,hP⟩:=gM (c:=cs x4 P4) Z.out kC (Sm.jL _ _) rfl;have gY:=hP.bt;have eT:=V hP.box;have gZ:=hP.size;go_wp2_with (refine gN rfl 60 _ _ rfl w.heap.size _ rfl rfl hP ?_)
 have bU:=HB.out;refine ak (v:=.agg (cs (x4) (P4))) ?_ rfl (PO.ok (FM.out) qe ⟨(P4),rfl,uz KS4.out qe⟩ (HR.out.low qe));exact au rfl _ _ w.heap.size 60 _ (0,0) _ rfl eT.out Tryz.underlying60 rfl (by kernel_rfl)
end
end Ps
namespace Ps
open Go.RowKit
theorem aoQ (T:TypeId) (n:Nat) (hT:(Tryz.prog.info? T).map (·.size)=X n) (z c:Array ax) (hz:z.size=n) (hc:c.size=n) (h1:c.all (·.oneCell')=true) (w:aj):(Instr.storeAt T (.pointer (X ⟨w.heap.size,0,U⟩)) (.agg c)).run ag (w.alloc (.cells z T))=.ok () (w.alloc (.cells c T)):=
 run_storeAt_new w _ _ _ (by rw[hc];exact hT) (hz.trans hc.symm) h1
theorem afH {ops:Array Oper} {rest:List Oper} {o:Oper} {a:Act} {w:aj} {Q:Exit->Act->aj->Prop} (T:TypeId) (n:Nat) (hT:(Tryz.prog.info? T).map (·.size)=X n) (hgd:o.guard=U) (x y:Operand) (ho:o.op=.store T x y) (z cells:Array ax) (hx:a.eval x=.pointer (X ⟨w.heap.size,0,U⟩)) (hy:a.eval y=.agg cells) (hz:z.size=n) (hc:cells.size=n) (h1:cells.all (·.oneCell')=true) (h:wpList ag ops Q rest (a.put o.dst undef) (w.alloc (.cells cells T))):wpList ag ops Q (o::rest) a (w.alloc (.cells z T)):=
 wpList_plain hgd fun _ hK=>by
  have h2:=aoQ T n hT z cells hz hc h1 w;unfold Oper.wp execOp;simp only[ho,hx,hy,h2,Sem.run_bind,Sem.run_pure,Result.andThen_ok];exact hK _ _ h
end Ps
end Go.Proofs.YtbgodajefaahdaaGreatDoor
