/-
  Parts of this proof: The contract of listed. The contract of the reader's distribution. A record that is being made in a box, with lists. A whole record goes into a block that was just m.
-/
import Derived.Test.YtbgodajefaahdaaGreatDoorZTRow
import Derived.Test.YtbgodajefaahdaaGreatDoorZTSz
set_option linter.unusedVariables false
open Go.Lib (hid)
namespace Go.Proofs.YtbgodajefaahdaaGreatDoor.Ps
open Go.Proofs.YtbgodajefaahdaaGreatDoor.Ps.P (exp)
open Go.RowKit
open Go.Proofs.YtbgodajefaahdaaGreatDoor.Lx (Tk)
open Go.Proofs.YtbgodajefaahdaaGreatDoor.Md (Rec Mono Box Kind Sized kind_of)
set_option maxHeartbeats 1000000
def RInt:Rec Int:=fun _ _ x c=>c=#[.int .i64 x]
theorem RInt.map:Mono RInt:=by intro G H w w2 _ _ x c h;exact h
theorem sInt:Sized 1 RInt:=by intro G w x c h;subst h;exact⟨rfl,by simp[Value.oneCell']⟩
theorem kNum:Kind 56 3 1:=kind_of Tryz.underlying56 (z:=.int .i64 0) (b:=8) (by kernel_rfl) (by decide) (by decide) (by decide)
structure LsIAt (L:Lk) (g:Nat) (r:R (List Int)) (m:P Int) (N:Nat) (w:World) (k:Nat) (v:Value) (wr:World):Prop where
 ex:∃l u,run (lsL m k l) u=r/\u.length<k/\u.length<=N/\l.length+u.length<=30000/\OwnF 3 1 RInt (fun b=>w.heap.size<=b) wr v l/\Rd L g u wr
 bt:Bt g w wr
section
variable {L:Lk} {g:Nat} {t:List Tk}
theorem zCK_0 {p:Prop} (h:p:=by
 have HBB:=HB.out;go_wp2_with fail;exact⟨rfl,PO.no (st_no HS (by assumption)) qe⟩
 ):p:=h
set_option maxRecDepth 100000 in
theorem listedI_any (f:FuncId) (m:P Int) (hm:Dn 1 m) (w:World) (hR:Rd L g t w) (hf:∀(a:Array Value) (W:World),(callFunc f a).run Tryz.prog W=.ok (.enter f a) W)
 (hC:∀W u,Rd L g u W->u.length<=t.length->Calls Tryz.prog f #[.pointer (some ⟨g,0,none⟩)] W (PO L g VI (run m u) W)):Calls Tryz.prog 184 #[.pointer (some ⟨g,0,none⟩),.func (.func f) #[] #[]] w (PO L g (VL 1 RInt) (run (lst m) t) w):=by
 have HD:Hid (∀u,run (exp zLpar) t=.ok () u->u.length<=t.length):=hid (fun u h=>by have:=((Dn.exp (by decide):Dn 1 (exp zLpar)).out hR.gd h).2;omega);have ht:=hR.small;have HC:=hid hC;have HM:=hid hm;clear hC hm;obtain⟨r,hr⟩:∃r,run (lst m) t=r:=⟨_,rfl⟩
 rw[hr];have HS:=hid hr;have hg:=hR.blk;have HR:=hid hR;have HB:Hid (Bt g w w):=hid (Eqv.refl _ _);clear hR hr;go_enter Tryz.func184,Tryz.ntmps184;go_wp2_with fail;refine(expect_any _ _ (HR.out.low qe) (by decide)).mono ?_;rintro e w1 h1;rcases h1.cases with⟨x1,u1,v1,r1,rfl,b1,V1,R1⟩|⟨u1,r1,rfl,b1⟩
 rotate_left 1
 · exact zCK_0
 have HT:=hid (HD.out _ r1);replace HS:=st_ok HS r1;replace HB:Hid (Bt g w w1):=hid qh;replace HR:=hid R1;clear b1 R1;clear r1 h1 HD;obtain rfl:=V1;go_wp2_with fail;go_loopg [5] FU (LsIAt L g r m t.length w)
 case atStart=>
  have h1:=HT.out;exact⟨⟨[],u1,HS.out,by unfold FU;omega,h1,by simp;omega,OwnF.nil,(HR.out.low qe)⟩,by have HBB:=HB.out;exact qe⟩
 case round=>
  obtain⟨⟨l,u,hs,hk,hn,hl,ho,hR⟩,hb⟩:=hrel;clear HS HB HR HT;obtain⟨k,rfl⟩:∃k,gk=k+1:=⟨gk-1,by omega⟩
  rw[lsL_succ] at hs;have HL:=hid hl;have HK:=hid hk;have HN:=hid hn;have HO:=hid ho;have HR:=hid hR;have HB:=hid hb;have HS:=hid hs;have HGD:=hid hR.gd;clear hl hk hn ho hR hb hs;go_wp2_with fail;refine(accept_any zRpar _ (HR.out.low qe) (by decide)).mono ?_;rintro e w2 ⟨b2,⟨i2,rfl,R2⟩|⟨i2,rfl,R2⟩⟩
  · have o2:OwnF 3 1 RInt (fun b=>w.heap.size<=b) w2 u5 l:=HO.out.up RInt.map (b2.mono fun k _ hk=>by have:w.heap.size<=k:=hk;omega) (Nat.le_refl _);obtain⟨p,c,rfl,hrw⟩:=o2.rw RInt.map sInt (by have:=HL.out;omega);have HW:=hid hrw;replace HS:=st_yes HS i2;replace HB:Hid (Bt g w w2):=hid qh;replace HR:=hid R2;clear b2 R2;clear i2 o2 hrw HO;go_wp2_with fail;go_ret;exact PO.ok (st_end HS) HB.out ⟨p,_,c,rfl,HW.out⟩ HR.out
  · have o2:OwnF 3 1 RInt (fun b=>w.heap.size<=b) w2 u5 l:=HO.out.up RInt.map (b2.mono fun k _ hk=>by have:w.heap.size<=k:=hk;omega) (Nat.le_refl _);replace HO:=hid o2;replace HS:=st_not HS i2;replace HB:Hid (Bt g w w2):=hid qh;replace HR:=hid R2;clear b2 R2;clear i2 o2;have hlen:∃p c,u5=.slice p l.length c:=by
     obtain⟨p,c,h,-⟩:=HO.out.rw RInt.map sInt (by have:=HL.out;omega);exact⟨p,c,h⟩
    obtain⟨p5,c5,rfl⟩:=hlen;have hlm:l.length<=30000:=by have:=HL.out;omega
    cases l with
    | nil=>
     dsimp only [lsN] at HS;have HDD:Hid (∀x v,run m u=.ok x v->v.length+1<=u.length):=hid fun x v h=>(HM.out.out HGD.out h).2;go_wp2_with fail;refine(HC.out _ _ (HR.out.low qe) HN.out).mono ?_;rintro e w3 h3;rcases h3.cases with⟨x3,u3,v3,r3,rfl,b3,V3,R3⟩|⟨u3,r3,rfl,b3⟩
     rotate_left 1
     · exact zCK_0
     have HTT:=hid (HDD.out _ _ r3);replace HS:=st_ok HS r3;have s2:=HB.out.size;have s3:=b3.size;have o3:OwnF 3 1 RInt (fun b=>w.heap.size<=b) w3 (.slice p5 0 c5) []:=HO.out.up RInt.map (b3.mono fun k _ hk=>by have:w.heap.size<=k:=hk;omega) (Nat.le_refl _);obtain rfl:v3=.int .i64 x3:=V3;have HY:Hid ((∀b,(Value.slice p5 0 c5).ownBlock=some b->w.heap.size<=b)->RInt (fun b=>w.heap.size<=b/\¬(Value.slice p5 0 c5).ownBlock=some b) (w3.alloc (.cells #[.int .i64 x3] 3)) x3 #[.int .i64 x3]):=hid fun _=>rfl;replace HO:=hid o3;replace HB:Hid (Bt g w w3):=hid qh;replace HR:=hid R3;clear b3 R3;clear r3 h3 o3 HDD;have o4:OwnF 3 1 RInt (fun b=>w.heap.size<=b) (w3.alloc (.cells (#[.int .i64 x3]) 3)) (.slice p5 0 c5) []:=HO.out.up RInt.map qe (Nat.le_refl _);have c4:Box (w3.alloc (.cells (#[.int .i64 x3]) 3)) w3.heap.size 3 (#[.int .i64 x3]):=Box.new;obtain⟨v5,w5,hrun,o5,hg5⟩:=o4.app kNum RInt.map sInt c4.cell (x:=x3) (HY.out o4.blk) (by simp);have B5:Hid (Bt g w w5):=hid (Eqv.grown qh hg5 fun b hb=>.inl (o4.blk b hb));have R5:Hid (Rd L g u3 w5):=hid (HR.out.low (Eqv.grown qe hg5 fun b hb=>.inr (by have:=o4.blk b hb;show ¬b<=g;omega)));have O5:Hid (OwnF 3 1 RInt (fun b=>w.heap.size<=b) w5 v5 [x3]):=hid (o5.map RInt.map (Nat.le_refl _) fun b hb _=>⟨by
      rcases hb with hb|hb
      · exact hb
      · have e:(w3.alloc (.cells (#[.int .i64 x3]) 3)).heap.size=w3.heap.size+1:=by simp
        omega,rfl⟩)
     skip
     clear o4 c4 o5 hg5 HB HR HO HY;go_wp2_with (at_builtin;refine Lib.wpList_append_run _ rfl _ _ _ _ rfl _ _ rfl rfl _ _ hrun ?_)
     go_roundg k
     case measure=>omega
     case rel=>
      have h1:=HTT.out;have h2:=HK.out;have h3:=HN.out;have h4:=HL.out;exact⟨⟨_,u3,HS.out,by omega,by omega,by simp at h4 ⊢; omega,O5.out,R5.out⟩,B5.out⟩
    | cons y l=>
     dsimp only [lsN] at HS;have HDE:Hid (∀v,run (exp zComma) u=.ok () v->Gd v/\v.length+1<=u.length):=hid fun v h=>(Dn.exp (by decide):Dn 1 (exp zComma)).out HGD.out h;have hpos:decide ((0:Int)<(((y::l).length:Nat):Int))=true:=decide_eq_true (by have h:0<(y::l).length:=Nat.zero_lt_succ _;omega);go_wp2_with fail;refine(expect_any _ _ (HR.out.low qe) (by decide)).mono ?_;rintro e w3 h3;rcases h3.cases with⟨x3,u3,v3,r3,rfl,b3,V3,R3⟩|⟨u3,r3,rfl,b3⟩
     rotate_left 1
     · exact zCK_0
     have HTE:=hid (HDE.out _ r3);have HDD:Hid (∀x v,run m u3=.ok x v->v.length+1<=u3.length):=hid fun x v h=>(HM.out.out HTE.out.1 h).2;replace HS:=st_ok HS r3;have s2:=HB.out.size;have s3:=b3.size;have o3:OwnF 3 1 RInt (fun b=>w.heap.size<=b) w3 (.slice p5 (y::l).length c5) (y::l):=HO.out.up RInt.map (b3.mono fun k _ hk=>by have:w.heap.size<=k:=hk;omega) (Nat.le_refl _);replace HO:=hid o3;replace HB:Hid (Bt g w w3):=hid qh;replace HR:=hid R3;clear b3 R3;clear r3 h3 o3 HDE;obtain rfl:=V3;go_wp2_with fail;refine(HC.out _ _ (HR.out.low qe) (by have h1:=HTE.out.2;have h2:=HN.out;omega)).mono ?_;rintro e w4 h4;rcases h4.cases with⟨x4,u4,v4,r4,rfl,b4,V4,R4⟩|⟨u4,r4,rfl,b4⟩
     rotate_left 1
     · exact zCK_0
     have HTT:=hid (HDD.out _ _ r4);replace HS:=st_ok HS r4;have s4:=b4.size;have o4':OwnF 3 1 RInt (fun b=>w.heap.size<=b) w4 (.slice p5 (y::l).length c5) (y::l):=HO.out.up RInt.map (b4.mono fun k _ hk=>by have:w.heap.size<=k:=hk;omega) (Nat.le_refl _);obtain rfl:v4=.int .i64 x4:=V4;have HY:Hid ((∀b,(Value.slice p5 (y::l).length c5).ownBlock=some b->w.heap.size<=b)->RInt (fun b=>w.heap.size<=b/\¬(Value.slice p5 (y::l).length c5).ownBlock=some b) (w4.alloc (.cells #[.int .i64 x4] 3)) x4 #[.int .i64 x4]):=hid fun _=>rfl;replace HO:=hid o4';replace HB:Hid (Bt g w w4):=hid qh;replace HR:=hid R4;clear b4 R4;clear r4 h4 o4' HDD;have o4:OwnF 3 1 RInt (fun b=>w.heap.size<=b) (w4.alloc (.cells (#[.int .i64 x4]) 3)) (.slice p5 (y::l).length c5) (y::l):=HO.out.up RInt.map qe (Nat.le_refl _);have c4':Box (w4.alloc (.cells (#[.int .i64 x4]) 3)) w4.heap.size 3 (#[.int .i64 x4]):=Box.new;obtain⟨v5,w5,hrun,o5,hg5⟩:=o4.app kNum RInt.map sInt c4'.cell (x:=x4) (HY.out o4.blk) (by omega);have B5:Hid (Bt g w w5):=hid (Eqv.grown qh hg5 fun b hb=>.inl (o4.blk b hb));have R5:Hid (Rd L g u4 w5):=hid (HR.out.low (Eqv.grown qe hg5 fun b hb=>.inr (by have:=o4.blk b hb;show ¬b<=g;omega)));have O5:Hid (OwnF 3 1 RInt (fun b=>w.heap.size<=b) w5 v5 ((y::l)++[x4])):=hid (o5.map RInt.map (Nat.le_refl _) fun b hb _=>⟨by
      rcases hb with hb|hb
      · exact hb
      · have e:(w4.alloc (.cells (#[.int .i64 x4]) 3)).heap.size=w4.heap.size+1:=by simp
        omega,rfl⟩)
     skip
     clear o4 c4' o5 hg5 HB HR HO HY;go_wp2_with (at_builtin;refine Lib.wpList_append_run _ rfl _ _ _ _ rfl _ _ rfl rfl _ _ hrun ?_)
     go_roundg k
     case measure=>omega
     case rel=>
      have h0:=HTE.out.2;have h1:=HTT.out;have h2:=HK.out;have h3:=HN.out;have h4:=HL.out;exact⟨⟨_,u4,HS.out,by omega,by omega,by simp at h4 ⊢; omega,O5.out,R5.out⟩,B5.out⟩
end
end Go.Proofs.YtbgodajefaahdaaGreatDoor.Ps
namespace Go.Proofs.YtbgodajefaahdaaGreatDoor.Ps
open Go.RowKit
open Go.Proofs.YtbgodajefaahdaaGreatDoor.Lx (Tk)
open Go.Proofs.YtbgodajefaahdaaGreatDoor.Sm (Dt Ints)
open Go.Proofs.YtbgodajefaahdaaGreatDoor.Md (Rw At Box)
set_option maxHeartbeats 1000000
def cDs (d:Dt) (vp:Option Addr) (vm vc:Nat) (wp:Option Addr) (wm wc:Nat):Array Value:=#[.int .i64 d.op,.int .i64 d.a,.int .i64 d.b,.int .i64 d.n,.slice vp vm vc,.slice wp wm wc]
def VDs (lo:Nat) (w:World) (d:Dt) (v:Value):Prop:=∃vp vm vc wp wm wc,v=.agg (cDs d vp vm vc wp wm wc)/\Ints (fun b=>lo<=b) w d.vs vp vm/\Ints (fun b=>lo<=b) w d.ws wp wm
theorem box_set6 {w:World} {g:Nat} {t:TypeId} {z:Array Value} {a b c d e f:Value} (h:Box w g t z) (hz:z.size=6):Box ((((((w.setCell ⟨g,0,none⟩ a).setCell ⟨g,1,none⟩ b).setCell ⟨g,2,none⟩ c).setCell ⟨g,3,none⟩ d).setCell ⟨g,4,none⟩ e).setCell ⟨g,5,none⟩ f) g t #[a,b,c,d,e,f]:=by
 obtain⟨x0,x1,x2,x3,x4,x5,rfl⟩:∃x0 x1 x2 x3 x4 x5,z=#[x0,x1,x2,x3,x4,x5]:=by
  match z,hz with
  | ⟨[x0,x1,x2,x3,x4,x5]⟩,_=>exact⟨x0,x1,x2,x3,x4,x5,rfl⟩
 exact box_set (box_set (box_set (box_set (box_set (box_set h)))))
theorem ints_nil {G:Nat->Prop} {w:World} {p:Option Addr}:Ints G w [] p 0:=⟨rfl,by omega,.inl rfl⟩
theorem ints_rw {G:Nat->Prop} {w:World} {l:List Int} {p:Option Addr} {m:Nat} (h:Rw 1 RInt G w l p m):Ints G w l p m:=by
 obtain⟨h1,h2,h3|⟨b,o,rfl,hg,hb,hc⟩⟩:=h
 · exact⟨h1,h2,.inl h3⟩
 · refine⟨h1,h2,.inr ⟨b,o,rfl,hg,hb,hid fun i hi=>?_⟩⟩;obtain⟨c,h4,h5,h6⟩:=hc.out i hi;have h6:c=#[.int .i64 l[i]]:=h6;subst h6;have:=h5.get (r:=0) rfl;rwa [Nat.add_zero,Nat.mul_one] at this
structure DsAt (w4:World) (D:Nat) (l:List (Int×Int)) (n:Nat) (v:Value) (wr:World):Prop where
 ex:∃k vv vw,k+n=l.length/\v=.int .i64 ((k:Nat):Int)/\Box wr D 58 #[.int .i64 3,.int .i64 0,.int .i64 0,.int .i64 0,vv,vw]/\OwnF 3 1 RInt (fun b=>w4.heap.size<=b) wr vv ((l.take k).map (·.1))/\OwnF 3 1 RInt (fun b=>w4.heap.size<=b) wr vw ((l.take k).map (·.2))/\(∀b,vv.ownBlock=some b->¬vw.ownBlock=some b)
 eq:Eqv (fun b=>¬b=D) w4 wr
theorem take_map {α β:Type} (f:α->β) {l:List α} {k:Nat} (h:k<l.length):(l.take (k+1)).map f=(l.take k).map f++[f l[k]]:=by
 rw[List.take_add_one,List.getElem?_eq_getElem h,List.map_append];rfl
section
variable {L:Lk} {g:Nat} {t:List Tk}
theorem zCL_0 {p:Prop} (h:p:=by
 have HBB:=HB.out;go_wp2_with fail;exact⟨rfl,PO.no (st_no HS (by assumption)) qe⟩
 ):p:=h
theorem zCL_1 {p:Prop} (h:p:=by
 exact results_cell_row rfl _ _ w.heap.size 58 _ (0,0) _ rfl (box_set6 Z.out rfl) Tryz.underlying58 rfl (by kernel_rfl)
 ):p:=h
theorem zCL_2 {p:Prop} (h:p:=by rw[List.length_append,List.length_map,List.length_take,List.length_singleton];omega):p:=h
set_option maxRecDepth 100000 in
theorem dist_any (w:World) (hR:Rd L g t w):Calls Tryz.prog 129 #[.pointer (some ⟨g,0,none⟩)] w (PO L g VDs (run dst t) w):=by
 obtain⟨r,hr⟩:∃r,run dst t=r:=⟨_,rfl⟩
 rw[hr];have HS:=hid hr;have hg:=hR.blk;have HR:=hid hR;have HB:Hid (Bt g w w):=hid (Eqv.refl _ _);clear hR hr;have Z:=hid (Box.new (w:=w) (t:=58) (c:=#[.int .i64 0,.int .i64 0,.int .i64 0,.int .i64 0,.slice none 0 0,.slice none 0 0]));go_enter Tryz.func129,Tryz.ntmps129;go_wp2_with fail;refine(accept_any kConst _ (HR.out.low qe) (by decide)).mono ?_;rintro e w1 ⟨b1,⟨i1,rfl,R1⟩|⟨i1,rfl,R1⟩⟩
 · replace HS:=st_yes HS i1;replace Z:=hid (box_at (w2:=w1) Z.out qe);replace HB:Hid (Bt g w w1):=hid qh;replace HR:=hid R1;clear b1 R1;clear i1;go_wp2_with fail;refine(number_any _ (HR.out.low qe)).mono ?_;rintro e w2 h2;rcases h2.cases with⟨x2,u2,v2,r2,rfl,b2,V2,R2⟩|⟨u2,r2,rfl,b2⟩
   rotate_left 1
   · exact zCL_0
   replace HS:=st_ok HS r2;replace Z:=hid (box_at (w2:=w2) Z.out qe);replace HB:Hid (Bt g w w2):=hid qh;replace HR:=hid R2;clear b2 R2;clear r2 h2;obtain⟨rfl,n0,n1⟩:=V2;have y0:World.cell? _ ⟨_,0,none⟩=some (.int .i64 0):=Z.out.get rfl;have y1:World.cell? _ ⟨_,1,none⟩=some (.int .i64 0):=Z.out.get rfl;have y2:World.cell? _ ⟨_,2,none⟩=some (.int .i64 0):=Z.out.get rfl;have y3:World.cell? _ ⟨_,3,none⟩=some (.int .i64 0):=Z.out.get rfl;have y4:World.cell? _ ⟨_,4,none⟩=some (.slice none 0 0):=Z.out.get rfl;have y5:World.cell? _ ⟨_,5,none⟩=some (.slice none 0 0):=Z.out.get rfl;have fz:∀i,World.frozen? _ ⟨_,i,none⟩=false:=fun i=>box_frz (i:=i) Z.out;go_wp2_with fail;have HBB:=HB.out;refine bodyPost_ret (v:=.agg (cDs (⟨1,x2,0,0,[],[]⟩:Dt) none 0 0 none 0 0)) ?_ rfl (PO.ok (st_end HS) qe ⟨none,0,0,none,0,0,rfl,ints_nil,ints_nil⟩ (HR.out.low qe));exact zCL_1
 replace HS:=st_not HS i1;replace Z:=hid (box_at (w2:=w1) Z.out qe);replace HB:Hid (Bt g w w1):=hid qh;replace HR:=hid R1;clear b1 R1;clear i1;go_wp2_with fail;refine(accept_any kUniform _ (HR.out.low qe) (by decide)).mono ?_;rintro e w2 ⟨b2,⟨i2,rfl,R2⟩|⟨i2,rfl,R2⟩⟩
 · replace HS:=st_yes HS i2;replace Z:=hid (box_at (w2:=w2) Z.out qe);replace HB:Hid (Bt g w w2):=hid qh;replace HR:=hid R2;clear b2 R2;clear i2;go_wp2_with fail;refine(number_any _ (HR.out.low qe)).mono ?_;rintro e w3 h3;rcases h3.cases with⟨x3,u3,v3,r3,rfl,b3,V3,R3⟩|⟨u3,r3,rfl,b3⟩
   rotate_left 1
   · exact zCL_0
   replace HS:=st_ok HS r3;replace Z:=hid (box_at (w2:=w3) Z.out qe);replace HB:Hid (Bt g w w3):=hid qh;replace HR:=hid R3;clear b3 R3;clear r3 h3;obtain⟨rfl,n0,n1⟩:=V3;go_wp2_with fail;refine(number_any _ (HR.out.low qe)).mono ?_;rintro e w4 h4;rcases h4.cases with⟨x4,u4,v4,r4,rfl,b4,V4,R4⟩|⟨u4,r4,rfl,b4⟩
   rotate_left 1
   · exact zCL_0
   replace HS:=st_ok HS r4;replace Z:=hid (box_at (w2:=w4) Z.out qe);replace HB:Hid (Bt g w w4):=hid qh;replace HR:=hid R4;clear b4 R4;clear r4 h4;obtain⟨rfl,n2,n3⟩:=V4;have y0:World.cell? _ ⟨_,0,none⟩=some (.int .i64 0):=Z.out.get rfl;have y1:World.cell? _ ⟨_,1,none⟩=some (.int .i64 0):=Z.out.get rfl;have y2:World.cell? _ ⟨_,2,none⟩=some (.int .i64 0):=Z.out.get rfl;have y3:World.cell? _ ⟨_,3,none⟩=some (.int .i64 0):=Z.out.get rfl;have y4:World.cell? _ ⟨_,4,none⟩=some (.slice none 0 0):=Z.out.get rfl;have y5:World.cell? _ ⟨_,5,none⟩=some (.slice none 0 0):=Z.out.get rfl;have fz:∀i,World.frozen? _ ⟨_,i,none⟩=false:=fun i=>box_frz (i:=i) Z.out;go_wp2_with fail;have HBB:=HB.out;refine bodyPost_ret (v:=.agg (cDs (⟨2,x3,x4,0,[],[]⟩:Dt) none 0 0 none 0 0)) ?_ rfl (PO.ok (st_end HS) qe ⟨none,0,0,none,0,0,rfl,ints_nil,ints_nil⟩ (HR.out.low qe));exact zCL_1
 replace HS:=st_not HS i2;replace Z:=hid (box_at (w2:=w2) Z.out qe);replace HB:Hid (Bt g w w2):=hid qh;replace HR:=hid R2;clear b2 R2;clear i2;go_wp2_with fail;refine(accept_any kTable _ (HR.out.low qe) (by decide)).mono ?_;rintro e w3 ⟨b3,⟨i3,rfl,R3⟩|⟨i3,rfl,R3⟩⟩
 · have hl3:Hid (∀x u,run prs t.tail=.ok x u->x.length<=30000):=hid (prs_few (s:=kTable) HR.out.gd HR.out.small i3);replace HS:=st_yes HS i3;replace Z:=hid (box_at (w2:=w3) Z.out qe);replace HB:Hid (Bt g w w3):=hid qh;replace HR:=hid R3;clear b3 R3;clear i3;go_wp2_with fail;have hz3:=Z.out.lt;have Y:=hid (Box.new (w:=w3) (t:=58) (c:=#[.int .i64 3,.int .i64 0,.int .i64 0,.int .i64 0,.slice none 0 0,.slice none 0 0]));refine(pairs_any _ (HR.out.low qe)).mono ?_;rintro e w4 h4;rcases h4.cases with⟨x4,u4,v4,r4,rfl,b4,V4,R4⟩|⟨u4,r4,rfl,b4⟩
   rotate_left 1
   · exact zCL_0
   have HLN:=hid (hl3.out _ _ r4);replace HS:=st_ok HS r4;replace Z:=hid (box_at (w2:=w4) Z.out qe);replace Y:=hid (box_at (w2:=w4) Y.out qe);replace HB:Hid (Bt g w w4):=hid qh;replace HR:=hid R4;clear b4 R4;clear r4 h4 hl3;obtain⟨p,m,c,rfl,hrw⟩:=V4;obtain rfl:x4.length=m:=hrw.1;have e0:(w3.alloc (.cells #[.int .i64 3,.int .i64 0,.int .i64 0,.int .i64 0,.slice none 0 0,.slice none 0 0] 58)).heap.size=w3.heap.size+1:=by simp
   rw[e0] at hrw;have HRW:=hid hrw;have hz4:=Z.out.lt;have hy4:=Y.out.lt;clear hrw e0;go_wp2_with fail;go_loopg [27] x4.length (DsAt w4 w3.heap.size x4)
   case atStart=>exact⟨⟨0,.slice none 0 0,.slice none 0 0,by omega,rfl,Y.out,OwnF.nil,OwnF.nil,fun b h=>by cases h⟩,Eqv.refl _ _⟩
   case round=>
    obtain⟨⟨k,vv,vw,hk,rfl,hbx,hov,how,hne⟩,hq⟩:=hrel;by_cases hkl:k<x4.length
    · obtain⟨pb,o,rfl,hpb,hlt,hcc⟩:=HRW.out.rows (by omega);obtain⟨cc,hc1,hc2,hc3⟩:=hcc.out k hkl;have hc3:cc=cPr x4[k]:=hc3;subst hc3;obtain⟨⟨a,b⟩,hab⟩:∃q,x4[k]=q:=⟨_,rfl⟩
      rw[hab] at hc2;have hpb:w3.heap.size+1<=pb:=hpb;have hcw:At wr pb (o+k*2) #[.int .i64 a,.int .i64 b]:=hc2.keep (hq.block pb hlt (by omega));have q0:wr.cell? ⟨pb,o+k*2,none⟩=some (.int .i64 a):=by have:=hcw.get (r:=0) rfl;rwa [Nat.add_zero] at this
      have q1:wr.cell? ⟨pb,o+k*2+1,none⟩=some (.int .i64 b):=hcw.get (r:=1) rfl;have k0:(0:Int)<=(k:Int):=by omega
      have k1:(k:Int)<(x4.length:Int):=by omega
      have k2:decide ((k:Int)<(x4.length:Int))=true:=decide_eq_true k1;have hkm:k<x4.length:=hkl;have hlen:=HLN.out;have hw:IntKind.i64.wrap ((k:Int)+1)=((k+1:Nat):Int):=by rw[IntKind.wrap_i64];omega
      have hs4:w4.heap.size<=wr.heap.size:=hq.size;have b5:Box (wr.alloc (.cells #[.int .i64 a,.int .i64 b] 249)) wr.heap.size 249 #[.int .i64 a,.int .i64 b]:=Box.new;have d5:Box (wr.alloc (.cells #[.int .i64 a,.int .i64 b] 249)) w3.heap.size 58 #[.int .i64 3,.int .i64 0,.int .i64 0,.int .i64 0,vv,vw]:=box_at hbx qe;have c6:Box ((wr.alloc (.cells #[.int .i64 a,.int .i64 b] 249)).alloc (.cells #[.int .i64 a] 3)) (wr.heap.size+1) 3 #[.int .i64 a]:=by
       have h:=Box.new (w:=wr.alloc (.cells #[.int .i64 a,.int .i64 b] 249)) (t:=3) (c:=#[.int .i64 a]);rwa [show(wr.alloc (.cells #[.int .i64 a,.int .i64 b] 249)).heap.size=wr.heap.size+1 by simp] at h
      have o6:OwnF 3 1 RInt (fun b=>w4.heap.size<=b/\¬vw.ownBlock=some b) ((wr.alloc (.cells #[.int .i64 a,.int .i64 b] 249)).alloc (.cells #[.int .i64 a] 3)) vv ((x4.take k).map (·.1)):=by
       have q:Eqv (fun _=>True) wr ((wr.alloc (.cells #[.int .i64 a,.int .i64 b] 249)).alloc (.cells #[.int .i64 a] 3)):=by exact qe
       obtain⟨C,f1,f2,f3⟩:=hov.ex;exact⟨⟨C,f1,fun i hi hi2=>f2 i hi hi2,ownsRow_keep f3 fun b hb=>q.block b (hov.own hb) trivial⟩,fun b hb=>⟨hov.blk b hb,hne b hb⟩⟩
      obtain⟨v7,w7,hrun1,o7,hg7⟩:=o6.app kNum RInt.map sInt c6.cell (x:=a) rfl (by rw[List.length_map,List.length_take];omega);obtain⟨p7,n7,c7,rfl⟩:∃p n c,v7=.slice p n c:=by
       obtain⟨p,c,h,-⟩:=o7.rw RInt.map sInt zCL_2;exact⟨p,_,c,h⟩
      have d7:Box w7 w3.heap.size 58 #[.int .i64 3,.int .i64 0,.int .i64 0,.int .i64 0,vv,vw]:=box_at d5 (Eqv.grown qe hg7 fun b hb=>.inr (by have:=o6.blk b hb;show ¬b=w3.heap.size;omega));have b7:Box w7 wr.heap.size 249 #[.int .i64 a,.int .i64 b]:=box_at b5 (Eqv.grown qe hg7 fun b hb=>.inr (by have:=hov.own hb;show ¬b=wr.heap.size;omega));have s7:wr.heap.size+1<w7.heap.size:=Nat.lt_of_lt_of_le c6.lt hg7.size;have o7w:OwnF 3 1 RInt (fun b=>w4.heap.size<=b) (((wr.alloc (.cells #[.int .i64 a,.int .i64 b] 249)).alloc (.cells #[.int .i64 a] 3))) vw ((x4.take k).map (·.2)):=by
       have q:Eqv (fun _=>True) wr ((wr.alloc (.cells #[.int .i64 a,.int .i64 b] 249)).alloc (.cells #[.int .i64 a] 3)):=by exact qe
       exact how.map RInt.map q.size fun b hb hlt=>⟨hb,q.block b hlt trivial⟩
      have hne7:∀j,(Value.slice p7 n7 c7).ownBlock=some j->¬vw.ownBlock=some j:=fun j h1 h2=>by
       have h3:=how.own h2;rcases o7.blk j h1 with h4|h4
       · exact h4.2 h2
       · simp at h4;omega
      have q7:Eqv (fun j=>vw.ownBlock=some j∨(Value.slice p7 n7 c7).ownBlock=some j) w7 (w7.setCell ⟨w3.heap.size,4,none⟩ (.slice p7 n7 c7)):=Eqv.set (Eqv.refl _ _) (.inr fun h=>by
       rcases h with h|h
       · have:=how.blk _ h;have h9:w4.heap.size<=w3.heap.size:=this;omega
       · rcases o7.blk _ h with h4|h4
         · have h9:w4.heap.size<=w3.heap.size:=h4.1;omega
         · simp at h4;omega)
      have d8:Box (w7.setCell ⟨w3.heap.size,4,none⟩ (.slice p7 n7 c7)) w3.heap.size 58 #[.int .i64 3,.int .i64 0,.int .i64 0,.int .i64 0,(.slice p7 n7 c7),vw]:=box_set d7;have b8:Box (w7.setCell ⟨w3.heap.size,4,none⟩ (.slice p7 n7 c7)) wr.heap.size 249 #[.int .i64 a,.int .i64 b]:=box_at b7 qe;have e8:(w7.setCell ⟨w3.heap.size,4,none⟩ (.slice p7 n7 c7)).heap.size=w7.heap.size:=by simp
      have c9:Box ((w7.setCell ⟨w3.heap.size,4,none⟩ (.slice p7 n7 c7)).alloc (.cells #[.int .i64 b] 3)) w7.heap.size 3 #[.int .i64 b]:=by
       have h:=Box.new (w:=w7.setCell ⟨w3.heap.size,4,none⟩ (.slice p7 n7 c7)) (t:=3) (c:=#[.int .i64 b]);rwa [e8] at h
      have o9:OwnF 3 1 RInt (fun j=>w4.heap.size<=j/\¬(Value.slice p7 n7 c7).ownBlock=some j) ((w7.setCell ⟨w3.heap.size,4,none⟩ (.slice p7 n7 c7)).alloc (.cells #[.int .i64 b] 3)) vw ((x4.take k).map (·.2)):=by
       have qa:Eqv (fun j=>vw.ownBlock=some j) ((wr.alloc (.cells #[.int .i64 a,.int .i64 b] 249)).alloc (.cells #[.int .i64 a] 3)) w7:=Eqv.grown (Eqv.refl _ _) hg7 fun j h=>.inr (hne j h);have qb:Eqv (fun j=>vw.ownBlock=some j) w7 (w7.setCell ⟨w3.heap.size,4,none⟩ (.slice p7 n7 c7)):=q7.mono fun j _ h=>.inl h;have qc:Eqv (fun j=>vw.ownBlock=some j) _ ((w7.setCell ⟨w3.heap.size,4,none⟩ (.slice p7 n7 c7)).alloc (.cells #[.int .i64 b] 3)):=(qa.trans qb).alloc;obtain⟨C,f1,f2,f3⟩:=o7w.ex;exact⟨⟨C,f1,fun i hi hi2=>f2 i hi hi2,ownsRow_keep f3 fun j hj=>qc.block j (o7w.own hj) hj⟩,fun j hj=>⟨o7w.blk j hj,fun h=>hne7 j h hj⟩⟩
      obtain⟨v10,w10,hrun2,o10,hg10⟩:=o9.app kNum RInt.map sInt c9.cell (x:=b) rfl (by rw[List.length_map,List.length_take];omega);obtain⟨p10,n10,c10,rfl⟩:∃p n c,v10=.slice p n c:=by
       obtain⟨p,c,h,-⟩:=o10.rw RInt.map sInt zCL_2;exact⟨p,_,c,h⟩
      have d10:Box w10 w3.heap.size 58 #[.int .i64 3,.int .i64 0,.int .i64 0,.int .i64 0,(.slice p7 n7 c7),vw]:=box_at d8 (Eqv.grown qe hg10 fun j hj=>.inr (by have:=o9.blk j hj;show ¬j=w3.heap.size;omega));have s10:w7.heap.size<w10.heap.size:=Nat.lt_of_lt_of_le c9.lt hg10.size;have hne10:∀j,(Value.slice p7 n7 c7).ownBlock=some j->¬(Value.slice p10 n10 c10).ownBlock=some j:=fun j h1 h2=>by
       have h3:=o7.own h1;rcases o10.blk j h2 with h4|h4
       · exact h4.2 h1
       · simp at h4;omega
      have o11:OwnF 3 1 RInt (fun j=>w4.heap.size<=j) (w10.setCell ⟨w3.heap.size,5,none⟩ (.slice p10 n10 c10)) (.slice p7 n7 c7) ((x4.take (k+1)).map (·.1)):=by
       rw[take_map _ hkl,hab];have qa:Eqv (fun j=>(Value.slice p7 n7 c7).ownBlock=some j) w7 w10:=Eqv.grown ((q7.mono fun j _ h=>.inr h).alloc) hg10 fun j h=>.inr fun h2=>hne7 j h2 h;have qb:Eqv (fun j=>(Value.slice p7 n7 c7).ownBlock=some j) w7 (w10.setCell ⟨w3.heap.size,5,none⟩ (.slice p10 n10 c10)):=qa.trans (Eqv.set (Eqv.refl _ _) (.inr fun h=>by
        rcases o7.blk _ h with h4|h4
        · have h9:w4.heap.size<=w3.heap.size:=h4.1;omega
        · simp at h4;omega))
       obtain⟨C,f1,f2,f3⟩:=o7.ex;exact⟨⟨C,f1,fun i hi hi2=>f2 i hi hi2,ownsRow_keep f3 fun j hj=>qb.block j (o7.own hj) hj⟩,fun j hj=>by
        rcases o7.blk j hj with h4|h4
        · exact h4.1
        · simp at h4;show w4.heap.size<=j;omega⟩
      have o12:OwnF 3 1 RInt (fun j=>w4.heap.size<=j) (w10.setCell ⟨w3.heap.size,5,none⟩ (.slice p10 n10 c10)) (.slice p10 n10 c10) ((x4.take (k+1)).map (·.2)):=by
       rw[take_map _ hkl,hab];have qb:Eqv (fun j=>(Value.slice p10 n10 c10).ownBlock=some j) w10 (w10.setCell ⟨w3.heap.size,5,none⟩ (.slice p10 n10 c10)):=Eqv.set (Eqv.refl _ _) (.inr fun h=>by
        rcases o10.blk _ h with h4|h4
        · have h9:w4.heap.size<=w3.heap.size:=h4.1;omega
        · simp at h4;omega)
       obtain⟨C,f1,f2,f3⟩:=o10.ex;exact⟨⟨C,f1,fun i hi hi2=>f2 i hi hi2,ownsRow_keep f3 fun j hj=>qb.block j (o10.own hj) hj⟩,fun j hj=>by
        rcases o10.blk j hj with h4|h4
        · exact h4.1
        · simp at h4;show w4.heap.size<=j;omega⟩
      have q11:Eqv (fun b=>¬b=w3.heap.size) w4 (w10.setCell ⟨w3.heap.size,5,none⟩ (.slice p10 n10 c10)):=by
       have qa:Eqv (fun b=>¬b=w3.heap.size) w4 w7:=Eqv.grown qe hg7 fun j h=>.inl (o6.blk j h).1;have qb:Eqv (fun b=>¬b=w3.heap.size) w4 w10:=Eqv.grown qe hg10 fun j h=>.inl (o9.blk j h).1;exact qe
      have HX:=hid (And.intro (box_set (i:=5) (v:=(.slice p10 n10 c10)) d10) (And.intro o11 (And.intro o12 (And.intro hne10 q11))));have f4:wr.cell? ⟨w3.heap.size,4,none⟩=some vv:=hbx.get rfl;have f4':World.cell? _ ⟨w3.heap.size,4,none⟩=some vv:=d5.get rfl;have f5:World.cell? _ ⟨wr.heap.size,0,none⟩=some (.int .i64 a):=b5.get rfl;have f6:w7.cell? ⟨w3.heap.size,4,none⟩=some vv:=d7.get rfl;have z7:∀i,w7.frozen? ⟨w3.heap.size,i,none⟩=false:=fun i=>box_frz (i:=i) d7;have f7:w7.cell? ⟨w3.heap.size,5,none⟩=some vw:=d7.get rfl;have f7':World.cell? _ ⟨w3.heap.size,5,none⟩=some vw:=d8.get rfl;have f8:w7.cell? ⟨wr.heap.size,1,none⟩=some (.int .i64 b):=b7.get rfl;have f8':World.cell? _ ⟨wr.heap.size,1,none⟩=some (.int .i64 b):=b8.get rfl;have f9:w10.cell? ⟨w3.heap.size,5,none⟩=some vw:=d10.get rfl;have z9:∀i,w10.frozen? ⟨w3.heap.size,i,none⟩=false:=fun i=>box_frz (i:=i) d10;clear hov how hne hq hbx hcc hc1 hc2 hcw b5 d5 c6 o6 o7 hg7 d7 b7 o7w hne7 q7 d8 b8 c9 o9 o10 hg10 d10 hne10 o11 o12 q11 HRW HS HB HR Z Y;go_wp2_with (at_builtin;first|(refine Lib.wpList_append_run _ rfl _ _ _ _ rfl _ _ rfl rfl _ _ hrun1 ?_)|(refine Lib.wpList_append_run _ rfl _ _ _ _ rfl _ _ rfl rfl _ _ hrun2 ?_))
      go_roundg (gk-1)
      case measure=>omega
      case rel=>
       obtain⟨h1,h2,h3,h4,h5⟩:=HX.out;exact⟨⟨k+1,(.slice p7 n7 c7),(.slice p10 n10 c10),by omega,rfl,h1,h2,h3,h4⟩,h5⟩
    · obtain rfl:k=x4.length:=by omega
      rw[List.take_length] at hov how;obtain⟨vp,vc,hvv,hvr⟩:=hov.rw RInt.map sInt (by rw[List.length_map];have:=HLN.out;omega);obtain⟨wp,wc,hww,hwr⟩:=how.rw RInt.map sInt (by rw[List.length_map];have:=HLN.out;omega);rw[List.length_map] at hvv hvr hww hwr;subst hvv hww;have HV:=hid hvr;have HW:=hid hwr;replace Y:=hid hbx;replace Z:=hid (box_at (w2:=wr) Z.out qe);have hs4:w4.heap.size<=wr.heap.size:=hq.size;replace HB:Hid (Bt g w wr):=hid (by have HBB:=HB.out;exact HBB.call hq (by intro k hk hs;omega));replace HR:Hid (Rd L g u4 wr):=hid (HR.out.low (Eqv.mono hq (by intro k hk hs;have hs':k<=g:=hs;omega)));have k2:decide ((x4.length:Int)<(x4.length:Int))=false:=decide_eq_false (by omega);have k3:¬((x4.length:Int)<(x4.length:Int)):=by omega
      clear hov how hne hq hbx hk hkl hvr hwr HRW;have l0:World.cell? _ ⟨_,0,none⟩=some (.int .i64 3):=Y.out.get rfl;have l1:World.cell? _ ⟨_,1,none⟩=some (.int .i64 0):=Y.out.get rfl;have l2:World.cell? _ ⟨_,2,none⟩=some (.int .i64 0):=Y.out.get rfl;have l3:World.cell? _ ⟨_,3,none⟩=some (.int .i64 0):=Y.out.get rfl;have l4:World.cell? _ ⟨_,4,none⟩=some (.slice vp _ vc):=Y.out.get rfl;have l5:World.cell? _ ⟨_,5,none⟩=some (.slice wp _ wc):=Y.out.get rfl;have y0:World.cell? _ ⟨_,0,none⟩=some (.int .i64 0):=Z.out.get rfl;have y1:World.cell? _ ⟨_,1,none⟩=some (.int .i64 0):=Z.out.get rfl;have y2:World.cell? _ ⟨_,2,none⟩=some (.int .i64 0):=Z.out.get rfl;have y3:World.cell? _ ⟨_,3,none⟩=some (.int .i64 0):=Z.out.get rfl;have y4:World.cell? _ ⟨_,4,none⟩=some (.slice none 0 0):=Z.out.get rfl;have y5:World.cell? _ ⟨_,5,none⟩=some (.slice none 0 0):=Z.out.get rfl;have fz:∀i,World.frozen? _ ⟨_,i,none⟩=false:=fun i=>box_frz (i:=i) Z.out;go_wp2_with fail;have HBB:=HB.out;have q:∀W,Eqv (fun b=>w4.heap.size<=b) wr W->VDs w.heap.size W (⟨3,0,0,0,x4.map (·.1),x4.map (·.2)⟩:Dt) (.agg (cDs ⟨3,0,0,0,x4.map (·.1),x4.map (·.2)⟩ vp x4.length vc wp x4.length wc)):=fun W q=>⟨vp,_,vc,wp,_,wc,rfl,Sm.Ints.map q.size (fun b hb hlt=>⟨by show w.heap.size<=b;have hb':w4.heap.size<=b:=hb;omega,q.block b hlt hb⟩) (ints_rw HV.out),Sm.Ints.map q.size (fun b hb hlt=>⟨by show w.heap.size<=b;have hb':w4.heap.size<=b:=hb;omega,q.block b hlt hb⟩) (ints_rw HW.out)⟩
      refine bodyPost_ret (v:=.agg (cDs ⟨3,0,0,0,x4.map (·.1),x4.map (·.2)⟩ vp x4.length vc wp x4.length wc)) ?_ rfl (PO.ok (st_end HS) qe (q _ qe) (HR.out.low qe));exact zCL_1
 replace HS:=st_not HS i3;replace Z:=hid (box_at (w2:=w3) Z.out qe);replace HB:Hid (Bt g w w3):=hid qh;replace HR:=hid R3;clear b3 R3;clear i3;go_wp2_with fail;refine(accept_any kSum _ (HR.out.low qe) (by decide)).mono ?_;rintro e w4 ⟨b4,⟨i4,rfl,R4⟩|⟨i4,rfl,R4⟩⟩
 · replace HS:=st_yes HS i4;replace Z:=hid (box_at (w2:=w4) Z.out qe);replace HB:Hid (Bt g w w4):=hid qh;replace HR:=hid R4;clear b4 R4;clear i4;go_wp2_with fail;refine(number_any _ (HR.out.low qe)).mono ?_;rintro e w5 h5;rcases h5.cases with⟨x5,u5,v5,r5,rfl,b5,V5,R5⟩|⟨u5,r5,rfl,b5⟩
   rotate_left 1
   · exact zCL_0
   replace HS:=st_ok HS r5;replace Z:=hid (box_at (w2:=w5) Z.out qe);replace HB:Hid (Bt g w w5):=hid qh;replace HR:=hid R5;clear b5 R5;clear r5 h5;obtain⟨rfl,n0,n1⟩:=V5;go_wp2_with fail;refine(number_any _ (HR.out.low qe)).mono ?_;rintro e w6 h6;rcases h6.cases with⟨x6,u6,v6,r6,rfl,b6,V6,R6⟩|⟨u6,r6,rfl,b6⟩
   rotate_left 1
   · exact zCL_0
   replace HS:=st_ok HS r6;replace Z:=hid (box_at (w2:=w6) Z.out qe);replace HB:Hid (Bt g w w6):=hid qh;replace HR:=hid R6;clear b6 R6;clear r6 h6;obtain⟨rfl,n2,n3⟩:=V6;go_wp2_with fail;refine(number_any _ (HR.out.low qe)).mono ?_;rintro e w7 h7;rcases h7.cases with⟨x7,u7,v7,r7,rfl,b7,V7,R7⟩|⟨u7,r7,rfl,b7⟩
   rotate_left 1
   · exact zCL_0
   replace HS:=st_ok HS r7;replace Z:=hid (box_at (w2:=w7) Z.out qe);replace HB:Hid (Bt g w w7):=hid qh;replace HR:=hid R7;clear b7 R7;clear r7 h7;obtain⟨rfl,n4,n5⟩:=V7;have y0:World.cell? _ ⟨_,0,none⟩=some (.int .i64 0):=Z.out.get rfl;have y1:World.cell? _ ⟨_,1,none⟩=some (.int .i64 0):=Z.out.get rfl;have y2:World.cell? _ ⟨_,2,none⟩=some (.int .i64 0):=Z.out.get rfl;have y3:World.cell? _ ⟨_,3,none⟩=some (.int .i64 0):=Z.out.get rfl;have y4:World.cell? _ ⟨_,4,none⟩=some (.slice none 0 0):=Z.out.get rfl;have y5:World.cell? _ ⟨_,5,none⟩=some (.slice none 0 0):=Z.out.get rfl;have fz:∀i,World.frozen? _ ⟨_,i,none⟩=false:=fun i=>box_frz (i:=i) Z.out;go_wp2_with fail;have HBB:=HB.out;refine bodyPost_ret (v:=.agg (cDs (⟨4,x6,x7,x5,[],[]⟩:Dt) none 0 0 none 0 0)) ?_ rfl (PO.ok (st_end HS) qe ⟨none,0,0,none,0,0,rfl,ints_nil,ints_nil⟩ (HR.out.low qe));exact zCL_1
 replace HS:=st_not HS i4;replace Z:=hid (box_at (w2:=w4) Z.out qe);replace HB:Hid (Bt g w w4):=hid qh;replace HR:=hid R4;clear b4 R4;clear i4;go_wp2_with fail;refine(accept_any kGeom _ (HR.out.low qe) (by decide)).mono ?_;rintro e w5 ⟨b5,⟨i5,rfl,R5⟩|⟨i5,rfl,R5⟩⟩
 · replace HS:=st_yes HS i5;replace Z:=hid (box_at (w2:=w5) Z.out qe);replace HB:Hid (Bt g w w5):=hid qh;replace HR:=hid R5;clear b5 R5;clear i5;go_wp2_with fail;refine(number_any _ (HR.out.low qe)).mono ?_;rintro e w6 h6;rcases h6.cases with⟨x6,u6,v6,r6,rfl,b6,V6,R6⟩|⟨u6,r6,rfl,b6⟩
   rotate_left 1
   · exact zCL_0
   replace HS:=st_ok HS r6;replace Z:=hid (box_at (w2:=w6) Z.out qe);replace HB:Hid (Bt g w w6):=hid qh;replace HR:=hid R6;clear b6 R6;clear r6 h6;obtain⟨rfl,n0,n1⟩:=V6;go_wp2_with fail;refine(number_any _ (HR.out.low qe)).mono ?_;rintro e w7 h7;rcases h7.cases with⟨x7,u7,v7,r7,rfl,b7,V7,R7⟩|⟨u7,r7,rfl,b7⟩
   rotate_left 1
   · exact zCL_0
   replace HS:=st_ok HS r7;replace Z:=hid (box_at (w2:=w7) Z.out qe);replace HB:Hid (Bt g w w7):=hid qh;replace HR:=hid R7;clear b7 R7;clear r7 h7;obtain⟨rfl,n2,n3⟩:=V7;have y0:World.cell? _ ⟨_,0,none⟩=some (.int .i64 0):=Z.out.get rfl;have y1:World.cell? _ ⟨_,1,none⟩=some (.int .i64 0):=Z.out.get rfl;have y2:World.cell? _ ⟨_,2,none⟩=some (.int .i64 0):=Z.out.get rfl;have y3:World.cell? _ ⟨_,3,none⟩=some (.int .i64 0):=Z.out.get rfl;have y4:World.cell? _ ⟨_,4,none⟩=some (.slice none 0 0):=Z.out.get rfl;have y5:World.cell? _ ⟨_,5,none⟩=some (.slice none 0 0):=Z.out.get rfl;have fz:∀i,World.frozen? _ ⟨_,i,none⟩=false:=fun i=>box_frz (i:=i) Z.out;go_wp2_with fail;have HBB:=HB.out;refine bodyPost_ret (v:=.agg (cDs (⟨5,x6,x7,0,[],[]⟩:Dt) none 0 0 none 0 0)) ?_ rfl (PO.ok (st_end HS) qe ⟨none,0,0,none,0,0,rfl,ints_nil,ints_nil⟩ (HR.out.low qe));exact zCL_1
 replace HS:=st_not HS i5;replace Z:=hid (box_at (w2:=w5) Z.out qe);replace HB:Hid (Bt g w w5):=hid qh;replace HR:=hid R5;clear b5 R5;clear i5;go_wp2_with fail;refine(wrong_any _ (HR.out.low qe)).mono ?_;rintro e w6 ⟨rfl,b6⟩;have HBB:=HB.out;go_wp2_with fail;exact⟨rfl,PO.no (st_fl HS) (by have q:Bt g _ w6:=Eqv.of b6;exact qe)⟩
end
end Go.Proofs.YtbgodajefaahdaaGreatDoor.Ps
namespace Go.Proofs.YtbgodajefaahdaaGreatDoor.Ps
open Go.RowKit
open Go.Proofs.YtbgodajefaahdaaGreatDoor.Md (Rec Mono Rw Box Kind Sized)
set_option maxHeartbeats 1000000
def Mv (F:(Nat->Prop)->World->Prop):Prop:=∀{G H:Nat->Prop} {w w2:World},w.heap.size<=w2.heap.size->(∀b,G b->b<w.heap.size->H b/\w2.heap[b]?=w.heap[b]?)->F G w->F H w2
theorem mv_true:Mv (fun _ _=>True):=fun _ _ _=>trivial
theorem mv_own {α:Type} {T:TypeId} {k:Nat} {R:Rec α} {v:Value} {l:List α} (hm:Mono R):Mv (fun G w=>OwnF T k R G w v l):=fun hs hk h=>h.map hm hs hk
theorem mv_rw {α:Type} {k:Nat} {R:Rec α} {l:List α} {p:Option Addr} {m:Nat} (hm:Mono R):Mv (fun G w=>Rw k R G w l p m):=fun hs hk h=>h.map hm hs hk
theorem mv_box {b:Nat} {T:TypeId} {c:Array Value}:Mv (fun G w=>G b/\Box w b T c):=fun hs hk h=>⟨(hk b h.1 h.2.lt).1,h.2.keep (hk b h.1 h.2.lt).2⟩
theorem mv_and {F F':(Nat->Prop)->World->Prop} (h:Mv F) (h':Mv F'):Mv (fun G w=>F G w/\F' G w):=fun hs hk g=>⟨h hs hk g.1,h' hs hk g.2⟩
structure Bld (lo b:Nat) (T:TypeId) (c:Array Value) (F:Nat->(Nat->Prop)->World->Prop) (w:World):Prop where
 box:Box w b T c
 lob:lo<=b
 ex:∃col:Nat->Nat,col b=0/\∀j,F j (fun k=>lo<=k/\col k=j/\¬k=b) w
section
variable {lo b:Nat} {T:TypeId} {c:Array Value} {F:Nat->(Nat->Prop)->World->Prop} {w w1 w2:World}
theorem Bld.up (h:Bld lo b T c F w) (hm:∀j,Mv (F j)) (hb:Up lo w w1):Bld lo b T c F w1:=by
 obtain⟨col,h0,hF⟩:=h.ex;exact⟨box_but h.box hb h.lob,h.lob,col,h0,fun j=>hm j hb.size (fun k hk hlt=>⟨hk,hb.block k hlt hk.1⟩) (hF j)⟩
theorem Bld.cell (h:Bld lo b T c F w) {i:Nat} {v:Value} (hc:c[i]?=some v):w.cell? ⟨b,i,none⟩=some v:=h.box.get hc
theorem Bld.frz (h:Bld lo b T c F w) (i:Nat):w.frozen? ⟨b,i,none⟩=false:=box_frz h.box
theorem Bld.set (h:Bld lo b T c F w) (hm:∀j,Mv (F j)) (i:Nat) (v:Value):Bld lo b T (c.setIfInBounds i v) F (w.setCell ⟨b,i,none⟩ v):=by
 obtain⟨col,h0,hF⟩:=h.ex;have q:Eqv (fun k=>¬k=b) w (w.setCell ⟨b,i,none⟩ v):=Eqv.set (Eqv.refl _ _) (.inr fun e=>e rfl);exact⟨box_set h.box,h.lob,col,h0,fun j=>hm j q.size (fun k hk hlt=>⟨hk,q.block k hlt hk.2.2⟩) (hF j)⟩
theorem Bld.put (h:Bld lo b T c F w) (hm:∀j,Mv (F j)) (hb:Up lo w w1) {i:Nat} (hi:0<i) {F2:(Nat->Prop)->World->Prop} (hn:F2 (fun k=>w.heap.size<=k) w1) (hm2:Mv F2):Bld lo b T c (fun j=>if j=i then F2 else F j) w1:=by
 obtain⟨col,h0,hF⟩:=h.ex;have hlt:=h.box.lt;have hlo:=h.lob;refine⟨box_but h.box hb h.lob,h.lob,fun k=>if k<w.heap.size then col k else i,by simp only[if_pos hlt];exact h0,fun j=>?_⟩;by_cases hj:j=i
 · subst hj;simp only[if_true];exact hm2 (Nat.le_refl _) (fun k hk _=>⟨⟨by have hk':w.heap.size<=k:=hk;omega,by rw[if_neg (by have hk':w.heap.size<=k:=hk;omega)],by have hk':w.heap.size<=k:=hk;omega⟩,rfl⟩) hn
 · simp only[if_neg hj];exact hm j hb.size (fun k hk hl=>⟨⟨hk.1,by rw[if_pos hl];exact hk.2.1,hk.2.2⟩,hb.block k hl hk.1⟩) (hF j)
theorem Bld.push {α:Type} {LT T':TypeId} {k:Nat} {R:Rec α} (I:Kind LT T' k) (hR0:Mono R) (hs:Sized k R) (h:Bld lo b T c F w) (hm:∀j,Mv (F j)) (hb:Up lo w w1) {i:Nat} {v:Value} {l:List α} {y:α} {ce:Array Value} (hi:F i=fun G w=>OwnF T' k R G w v l) (hi0:0<i) (hc:c[i]?=some v) (hy:R (fun k=>w.heap.size<=k) w1 y ce) (hn:l.length<=999999) :
 ∃(v':Value) (w2:World),(Builtin.append_ #[LT,LT] LT #[v,.slice (some ⟨w1.heap.size,0,none⟩) 1 1]).run Tryz.prog (w1.alloc (.cells ce T'))=.ok v' w2/\(∃p m,v'=.slice p (l.length+1) m)/\w2.cell? ⟨b,i,none⟩=some v/\(∀i,w2.frozen? ⟨b,i,none⟩=false)/\Bld lo b T (c.setIfInBounds i v') (fun j=>if j=i then fun G w=>OwnF T' k R G w v' (l++[y]) else F j) (w2.setCell ⟨b,i,none⟩ v')/\Eqv (fun k=>k<lo) w1 (w2.setCell ⟨b,i,none⟩ v'):=by
 obtain⟨col,h0,hF⟩:=h.ex;have hlt:=h.box.lt;have hlo:=h.lob;have oi:OwnF T' k R (fun k=>lo<=k/\col k=i/\¬k=b) w v l:=by have:=hF i;rw[hi] at this;exact this
 have hown:∀e,v.ownBlock=some e->e<w.heap.size:=fun e he=>oi.own he;have hcol:∀e,v.ownBlock=some e->lo<=e/\col e=i/\¬e=b:=fun e he=>oi.blk e he;have q1:Up lo w (w1.alloc (.cells ce T')):=hb.alloc;have o4:OwnF T' k R (fun k=>(lo<=k/\col k=i/\¬k=b)∨w.heap.size<=k) (w1.alloc (.cells ce T')) v l:=oi.map hR0 q1.size (fun e hg hl=>⟨.inl hg,q1.block e hl hg.1⟩);have hy':R (fun e=>((lo<=e/\col e=i/\¬e=b)∨w.heap.size<=e)/\¬v.ownBlock=some e) (w1.alloc (.cells ce T')) y ce:=hR0 (by simp) (fun e he hl=>⟨⟨.inr he,fun h9=>by have:=hown e h9;have he':w.heap.size<=e:=he;omega⟩,by show(w1.heap.push _)[e]?=_;rw[Array.getElem?_push,if_neg (by omega)]⟩) hy;obtain⟨v',w2,hrun,o5,hg5⟩:=o4.app I hR0 hs (Box.new (w:=w1) (t:=T') (c:=ce)).cell hy' (by omega);have hform:∃p m,v'=.slice p (l.length+1) m:=by
  obtain⟨p,m,e,-⟩:=o5.rw hR0 hs (by rw[List.length_append,List.length_singleton];omega);exact⟨p,m,by rw[e,List.length_append,List.length_singleton]⟩
 have qa:Eqv (fun e=>lo<=e/\¬v.ownBlock=some e) w w2:=Eqv.grown (q1.mono fun e _ he=>he.1) hg5 fun e he=>.inr fun h9=>h9.2 he;have qc:Eqv (fun e=>e<lo) w1 w2:=Eqv.grown (Eqv.alloc (Eqv.refl _ _)) hg5 fun e he=>.inr fun h9=>by have:=(hcol e he).1;have h9':e<lo:=h9;omega
 have hbn:¬v.ownBlock=some b:=fun e=>(hcol b e).2.2 rfl;have bx2:Box w2 b T c:=box_but h.box qa ⟨hlo,hbn⟩;have qb:Eqv (fun e=>lo<=e/\¬v.ownBlock=some e/\¬e=b) w (w2.setCell ⟨b,i,none⟩ v'):=Eqv.set (qa.mono fun e _ he=>⟨he.1,he.2.1⟩) (.inr fun h9=>h9.2.2 rfl);have qd:Eqv (fun e=>¬e=b) w2 (w2.setCell ⟨b,i,none⟩ v'):=Eqv.set (Eqv.refl _ _) (.inr fun h9=>h9 rfl);have hW1:w.heap.size<=(w1.alloc (.cells ce T')).heap.size:=q1.size;refine⟨v',w2,hrun,hform,bx2.get hc,fun j=>box_frz bx2,⟨box_set bx2,hlo,fun e=>if e<w.heap.size then col e else i,by simp only[if_pos hlt];exact h0,fun j=>?_⟩,Eqv.set qc (.inr fun h9=>by have h9':b<lo:=h9;omega)⟩;by_cases hj:j=i
 · subst hj;simp only[if_true];refine o5.map hR0 qd.size fun e he hl=>?_;have key:lo<=e/\(if e<w.heap.size then col e else j)=j/\¬e=b:=by
    rcases he with(he|he)|he
    · refine⟨he.1,?_,he.2.2⟩
      split
      · exact he.2.1
      · rfl
    · exact⟨by omega,by rw[if_neg (by omega)],by omega⟩
    · exact⟨by omega,by rw[if_neg (by omega)],by omega⟩
   exact⟨key,qd.block e hl key.2.2⟩
 · simp only[if_neg hj];refine hm j qb.size (fun e he hl=>⟨⟨he.1,by rw[if_pos hl];exact he.2.1,he.2.2⟩,qb.block e hl ⟨he.1,fun h9=>hj (he.2.1.symm.trans (hcol e h9).2.1),he.2.2⟩⟩) (hF j)
theorem Bld.new (hbx:Box w b T c) (hlo:lo<=b) (h0:F 0 (fun k=>lo<=k/\¬k=b) w) (hm:Mv (F 0)) (hF:∀j,0<j->∀G,F j G w):Bld lo b T c F w:=
 ⟨hbx, hlo, fun _ => 0, rfl, fun j => by
   by_cases hj:j=0
   · subst hj;exact hm (Nat.le_refl _) (fun k hk _=>⟨⟨hk.1,rfl,hk.2⟩,rfl⟩) h0
   · exact hF j (by omega) _⟩
theorem Bld.part (h:Bld lo b T c F w) (hm:∀j,Mv (F j)) (j:Nat):F j (fun k=>lo<=k) w:=by
 obtain⟨col,h0,hF⟩:=h.ex;exact hm j (Nat.le_refl _) (fun k hk _=>⟨hk.1,rfl⟩) (hF j)
theorem Bld.off (h:Bld lo b T c F w) (hm:∀j,Mv (F j)) {z:Nat} (h0:∀G,F 0 G w->G z) {j:Nat} (hj:0<j):F j (fun k=>lo<=k/\¬k=z/\¬k=b) w:=by
 obtain⟨col,hb0,hF⟩:=h.ex;have hz:=h0 _ (hF 0);exact hm j (Nat.le_refl _) (fun k hk _=>⟨⟨hk.1,fun e=>by have h1:=hz.2.1;have h2:=hk.2.1;rw[e,h1] at h2;omega,hk.2.2⟩,rfl⟩) (hF j)
theorem Bld.cast {F2:Nat->(Nat->Prop)->World->Prop} {c2:Array Value} (h:Bld lo b T c F w) (hF:∀j G W,F j G W->F2 j G W) (hc:c=c2):Bld lo b T c2 F2 w:=by
 subst hc;obtain⟨col,h0,hh⟩:=h.ex;exact⟨h.box,h.lob,col,h0,fun j=>hF j _ _ (hh j)⟩
end
end Go.Proofs.YtbgodajefaahdaaGreatDoor.Ps
namespace Go.Proofs.YtbgodajefaahdaaGreatDoor.Ps
open Go.RowKit
theorem new_atT (T:TypeId) (n:Nat) (hT:(Tryz.prog.info? T).map (·.size)=some n) (z c:Array Value) (hz:z.size=n) (hc:c.size=n) (h1:c.all (·.oneCell')=true) (w:World):(Instr.storeAt T (.pointer (some ⟨w.heap.size,0,none⟩)) (.agg c)).run Tryz.prog (w.alloc (.cells z T))=.ok () (w.alloc (.cells c T)):=
 run_storeAt_new w _ _ _ (by rw[hc];exact hT) (hz.trans hc.symm) h1
theorem wpList_newT {ops:Array Oper} {rest:List Oper} {o:Oper} {a:Act} {w:World} {Q:Exit->Act->World->Prop} (T:TypeId) (n:Nat) (hT:(Tryz.prog.info? T).map (·.size)=some n) (hgd:o.guard=none) (x y:Operand) (ho:o.op=.store T x y) (z cells:Array Value) (hx:a.eval x=.pointer (some ⟨w.heap.size,0,none⟩)) (hy:a.eval y=.agg cells) (hz:z.size=n) (hc:cells.size=n) (h1:cells.all (·.oneCell')=true) (h:wpList Tryz.prog ops Q rest (a.put o.dst undef) (w.alloc (.cells cells T))):wpList Tryz.prog ops Q (o::rest) a (w.alloc (.cells z T)):=
 wpList_plain hgd fun _ hK=>by
  have h2:=new_atT T n hT z cells hz hc h1 w;unfold Oper.wp execOp;simp only[ho,hx,hy,h2,Sem.run_bind,Sem.run_pure,Result.andThen_ok];exact hK _ _ h
end Go.Proofs.YtbgodajefaahdaaGreatDoor.Ps
