/-
  Parts of this proof: The contract of the reader's group. The contract of the reader's primary.
-/
import Derived.Test.YtbgodajefaahdaaGreatDoorZTRow
set_option linter.unusedVariables false
open Go.Lib (hid)
namespace Go.Proofs.YtbgodajefaahdaaGreatDoor.Ps
open Go.Proofs.YtbgodajefaahdaaGreatDoor.Ps.P (rt bd exp len)
open Go.RowKit
open Go.Proofs.YtbgodajefaahdaaGreatDoor.Lx (Tk)
open Go.Proofs.YtbgodajefaahdaaGreatDoor.Ex (Ex Kin kin_iff const_one)
open Go.Proofs.YtbgodajefaahdaaGreatDoor.Md (Box)
set_option maxHeartbeats 2000000
theorem neg_else {d:Nat} {e:Ex} (h:¬d=4∨¬e.o=5):neg d e=e:=by
 unfold neg
 split
 · rcases h with h|h
   · exact absurd rfl h
   · exact absurd rfl h
 · rfl
theorem neg_kid {s:ByteArray} {m:Int} {y:Ex} (h:¬y.o=1):neg 4 (.mk 5 s m [y])=.mk 5 s m [y]:=by
 unfold neg
 split
 · rename_i h1;injection h1 with _ _ _ h1;injection h1 with h1;rw[h1] at h;exact absurd rfl h
 · rfl
theorem neg_one {s:ByteArray} {m:Int} {y:Ex} (h:y.o=1):neg 4 (.mk 5 s m [y])=ndI 1 (-y.n):=by
 obtain⟨o,s',n',l'⟩:=y;have h:o=1:=h;subst h;rfl
section
variable {L:Lk} {g:Nat} {t:List Tk} {n:Nat}
theorem zCA_1 {p:Prop} (h:p:=by
 exact results_cell_row rfl _ _ w.heap.size 41 _ (0,0) _ rfl (box_set4 Z.out rfl) Tryz.underlying41 rfl (by kernel_rfl)
 ):p:=h
theorem zCA_0 {p:Prop} (h:p:=by
 have l0:World.cell? _ ⟨_,0,none⟩=some (.int .i64 x2.o):=Y.out.get rfl;have l1:World.cell? _ ⟨_,1,none⟩=some (.string x2.s):=Y.out.get rfl;have l2:World.cell? _ ⟨_,2,none⟩=some (.int .i64 x2.n):=Y.out.get rfl;have l3:World.cell? _ ⟨_,3,none⟩=some (.slice p2 m2 c2):=Y.out.get rfl;have y0:World.cell? _ ⟨_,0,none⟩=some (.int .i64 0):=Z.out.get rfl;have y1:World.cell? _ ⟨_,1,none⟩=some (.string ⟨#[]⟩):=Z.out.get rfl;have y2:World.cell? _ ⟨_,2,none⟩=some (.int .i64 0):=Z.out.get rfl;have y3:World.cell? _ ⟨_,3,none⟩=some (.slice none 0 0):=Z.out.get rfl;have fz:∀i,World.frozen? _ ⟨_,i,none⟩=false:=fun i=>box_frz (i:=i) Z.out;go_wp2_with fail;have HBB:=HB.out;refine bodyPost_ret (v:=.agg (cEx (x2) (p2) m2 c2)) ?_ rfl (PO.ok (by rw[HG.out.2 _ _ (st_end HS),HDE.out,neg_else HNE.out]) qe ⟨(p2),m2,c2,rfl,?_⟩ (HR.out.low qe))
 · exact zCA_1
 · have KK:=KX2.out;exact kin_fin KK qe
 ):p:=h
set_option maxRecDepth 100000 in
theorem group_any (hX:XC L g n) (hQ:∀u x v,Gd u->run (fE n) u=.ok x v->x.o=5->∃s m y,x=.mk 5 s m [y]/\-1000000000000<=y.n/\y.n<=1000000000000) (w:World) (hR:Rd L g t w) (hn:t.length<=n):Calls Tryz.prog 232 #[.pointer (some ⟨g,0,none⟩)] w (PO L g VX (run (grp (fE n)) t) w):=by
 have HX:=hid hX.xe;have HD:Hid (∀u,run (exp zLpar) t=.ok () u->u.length<n/\u.length+1=t.length):=hid fun u h=>by
  have h1:=((Dn.exp (by decide):Dn 1 (exp zLpar)).out hR.gd h).2;have h2:=hR.gd.ne
  cases hi:is zLpar t with
  | true=>rw[exp_yes hi] at h;cases h;have:=List.length_tail (l:=t);omega
  | false=>rw[exp_no hi] at h;cases h
 have HQ:=hid hQ;have HLN:=hid hR.len;have HFW:=hid hR.few;have h1:=hR.c1;obtain⟨rr,hrr⟩:∃rr,run (grp (fE n)) t=rr:=⟨_,rfl⟩
 rw[hrr];unfold grp at hrr;obtain⟨r,hr⟩:∃r,run (bd (exp zLpar) fun _=>bd (fE n) fun e=>bd (exp zRpar) fun _=>rt e) t=r:=⟨_,rfl⟩
 have HG:Hid ((∀u,r=.no u->rr=.no u)/\∀x u,r=.ok x u->rr=.ok (neg (t.length-u.length) x) u):=hid ⟨fun u h=>hrr.symm.trans (len_no (hr.trans h)),fun x u h=>hrr.symm.trans (len_ok (hr.trans h))⟩;have HS:=hid hr;have hg:=hR.blk;have HR:=hid hR;have HB:Hid (Bt g w w):=hid (Eqv.refl _ _);obtain⟨j,hj⟩:∃j,L.at t=j:=⟨_,rfl⟩
 have HJ:=hid hj;rw[hj] at h1;clear hX hQ hn hr hrr hR hj;have Z:=hid (Box.new (w:=w) (t:=41) (c:=#[.int .i64 0,.string ⟨#[]⟩,.int .i64 0,.slice none 0 0]));have h1':(w.alloc (.cells #[.int .i64 0,.string ⟨#[]⟩,.int .i64 0,.slice none 0 0] 41)).cell? ⟨g,1,none⟩=some (.int .i64 (j:Int)):=by
  have hq:=HR.out.c1;rw[HJ.out] at hq;rw[World.cell?_of_block (w:=w) (a:=⟨g,1,none⟩) (by show(w.heap.push _)[g]?=_;rw[Array.getElem?_push,if_neg (by omega)])];exact hq
 clear h1;go_enter Tryz.func232,Tryz.ntmps232;go_wp2_with fail;clear h1';refine(expect_any _ _ (HR.out.low qe) (by decide)).mono ?_;rintro e w1 h1;rcases h1.cases with⟨x1,u1,v1,r1,rfl,b1,V1,R1⟩|⟨u1,r1,rfl,b1⟩
 rotate_left 1
 · have HBB:=HB.out;go_wp2_with fail;exact⟨rfl,PO.no (HG.out.1 _ (st_no HS r1)) qe⟩
 replace HS:=st_ok HS r1;replace Z:=hid (box_at (w2:=w1) Z.out qe);replace HB:Hid (Bt g w w1):=hid qh;replace HR:=hid R1;clear b1 R1;clear h1;have hu:=hid (HD.out _ r1);clear r1 HD;obtain rfl:=V1;have hz1:=Z.out.lt;go_wp2_with fail;have G1:=hid HR.out.gd;refine(HX.out _ _ (HR.out.low qe) hu.out.1).mono ?_;rintro e w2 h2;rcases h2.cases with⟨x2,u2,v2,r2,rfl,b2,V2,R2⟩|⟨u2,r2,rfl,b2⟩
 rotate_left 1
 · have HBB:=HB.out;go_wp2_with fail;exact⟨rfl,PO.no (HG.out.1 _ (st_no HS r2)) qe⟩
 replace HS:=st_ok HS r2;replace Z:=hid (box_at (w2:=w2) Z.out qe);replace HB:Hid (Bt g w w2):=hid qh;replace HR:=hid R2;clear b2 R2;clear h2;obtain⟨p2,m2,c2,rfl,k2⟩:=V2;have KX2:Hid (Kin (fun b=>w.heap.size<b) w2 x2 p2 m2):=hid (k2.mono fun b hb hlt=>(by have hb':_<=b:=hb;first|(simp at hb';omega)|omega));clear k2;dsimp only [cEx];have HSH:Hid (x2.o=5->∃s m y,x2=.mk 5 s m [y]/\-1000000000000<=y.n/\y.n<=1000000000000):=hid (HQ.out _ _ _ G1.out r2);have Y:=hid (Box.new (w:=w2) (t:=41) (c:=cEx x2 p2 m2 c2));dsimp only [cEx] at Y;have hz2:=Z.out.lt;have hle2:=hid ((dn_fE n).out G1.out r2).2;have G2:=hid HR.out.gd;clear r2 G1 HQ;go_wp2_with fail;refine(expect_any _ _ (HR.out.low qe) (by decide)).mono ?_;rintro e w3 h3;rcases h3.cases with⟨x3,u3,v3,r3,rfl,b3,V3,R3⟩|⟨u3,r3,rfl,b3⟩
 rotate_left 1
 · have HBB:=HB.out;go_wp2_with fail;exact⟨rfl,PO.no (HG.out.1 _ (st_no HS r3)) qe⟩
 replace HS:=st_ok HS r3;replace Z:=hid (box_at (w2:=w3) Z.out qe);replace Y:=hid (box_at (w2:=w3) Y.out qe);replace KX2:=hid (kin_go (w2:=w3) KX2.out qe);replace HB:Hid (Bt g w w3):=hid qh;replace HR:=hid R3;clear b3 R3;clear h3;have hle3:=hid ((Dn.exp (by decide):Dn 1 (exp zRpar)).out G2.out r3).2;clear r3;obtain rfl:=V3;have hz3:=Z.out.lt;have hy3:=Y.out.lt;have n1:=HR.out.c1;obtain⟨j3,hj3⟩:∃j3,L.at u3=j3:=⟨_,rfl⟩
 rw[hj3] at n1;obtain⟨d,hd⟩:∃d,t.length-u3.length=d:=⟨_,rfl⟩
 have hlen:=HR.out.len.1;have hlen2:=HLN.out.1;have hfew:=HFW.out;have hJ:=HJ.out;rw[hj3] at hlen;rw[hJ] at hlen2;have hle:u3.length<=t.length:=by have h1:=hle2.out;have h2:=hu.out;have h3:=hle3.out;omega
 have hw:IntKind.i64.wrap ((j3:Int)-(j:Int))=(d:Int):=by rw[IntKind.wrap_i64];omega
 have HDE:=hid hd;clear hj3 hd hlen hlen2 hfew hJ hle;by_cases h4:d=4
 · have b4:((d:Int)==4)=true:=by simp[h4]
   by_cases h5:x2.o=5
   · obtain⟨s5,m5,y,hxy,yl,yh⟩:=HSH.out h5;subst hxy;subst h4;obtain⟨kl,km,k0|⟨b,o',rfl,hgb,hbl,hcc⟩⟩:=kin_iff.1 KX2.out
     · have kl:1=m2:=kl;omega
     have kl:1=m2:=kl;subst kl;obtain⟨q,jj,cc,hc4,hkk⟩:=hcc.out 0 (by simp);obtain⟨e0,e1,e2,e3⟩:=hc4;simp only[Nat.zero_mul,Nat.add_zero,List.getElem_cons_zero] at e0 e1 e2 e3;have b5:((5:Int)==5)=true:=rfl;have l0:World.cell? _ ⟨_,0,none⟩=some (.int .i64 (Ex.mk 5 s5 m5 [y]).o):=Y.out.get rfl;have l1:World.cell? _ ⟨_,1,none⟩=some (.string (Ex.mk 5 s5 m5 [y]).s):=Y.out.get rfl;have l2:World.cell? _ ⟨_,2,none⟩=some (.int .i64 (Ex.mk 5 s5 m5 [y]).n):=Y.out.get rfl;have l3:World.cell? _ ⟨_,3,none⟩=some (.slice (some ⟨b,o',none⟩) 1 c2):=Y.out.get rfl;simp only[Ex.o,Ex.s,Ex.n] at l0 l1 l2;by_cases h6:y.o=1
     · have b6:(y.o==1)=true:=by simp[h6]
       have hw2:wrap64 (-y.n) = -y.n:=by unfold wrap64;omega
       have HNG:Hid (neg 4 (Ex.mk 5 s5 m5 [y])=ndI 1 (-y.n)):=hid (neg_one h6);clear h5 h6 e1 e3 hkk hcc;go_wp2_with fail;refine(const_one (-y.n) _).mono ?_;rintro e w4 ⟨rfl,hb4⟩;have b4:Bt g _ w4:=Eqv.of hb4;have R4:Rd L g u3 w4:=HR.out.low (by have q:Lw g _ w4:=Eqv.of hb4;exact qe);replace Z:=hid (box_at (w2:=w4) Z.out qe);replace HB:Hid (Bt g w w4):=hid qh;replace HR:=hid R4;clear b4 R4;clear hb4;have y0:World.cell? _ ⟨_,0,none⟩=some (.int .i64 0):=Z.out.get rfl;have y1:World.cell? _ ⟨_,1,none⟩=some (.string ⟨#[]⟩):=Z.out.get rfl;have y2:World.cell? _ ⟨_,2,none⟩=some (.int .i64 0):=Z.out.get rfl;have y3:World.cell? _ ⟨_,3,none⟩=some (.slice none 0 0):=Z.out.get rfl;have fz:∀i,World.frozen? _ ⟨_,i,none⟩=false:=fun i=>box_frz (i:=i) Z.out;go_wp2_with fail;have KC:Hid (Kin (fun b=>w.heap.size<b) w4 (ndI 1 (-y.n)) none 0):=hid Ex.Kin.zero;have HBB:=HB.out;refine bodyPost_ret (v:=.agg (cEx (ndI 1 (-y.n)) (none) 0 0)) ?_ rfl (PO.ok (by rw[HG.out.2 _ _ (st_end HS),HDE.out,HNG.out]) qe ⟨(none),0,0,rfl,?_⟩ (HR.out.low qe))
       · exact zCA_1
       · have KK:=KC.out;exact kin_fin KK qe
     · have b6:(y.o==1)=false:=by simp[h6]
       have HNG:Hid (neg 4 (Ex.mk 5 s5 m5 [y])=Ex.mk 5 s5 m5 [y]):=hid (neg_kid h6);clear h5 h6 e1 e3 e2 hkk hcc;have y0:World.cell? _ ⟨_,0,none⟩=some (.int .i64 0):=Z.out.get rfl;have y1:World.cell? _ ⟨_,1,none⟩=some (.string ⟨#[]⟩):=Z.out.get rfl;have y2:World.cell? _ ⟨_,2,none⟩=some (.int .i64 0):=Z.out.get rfl;have y3:World.cell? _ ⟨_,3,none⟩=some (.slice none 0 0):=Z.out.get rfl;have fz:∀i,World.frozen? _ ⟨_,i,none⟩=false:=fun i=>box_frz (i:=i) Z.out;go_wp2_with fail;have HBB:=HB.out;refine bodyPost_ret (v:=.agg (cEx (Ex.mk 5 s5 m5 [y]) (some ⟨b,o',none⟩) 1 c2)) ?_ rfl (PO.ok (by rw[HG.out.2 _ _ (st_end HS),HDE.out,HNG.out]) qe ⟨(some ⟨b,o',none⟩),1,c2,rfl,?_⟩ (HR.out.low qe))
       · exact zCA_1
       · have KK:=KX2.out;exact kin_fin KK qe
   · have b5:(x2.o==5)=false:=by simp[h5]
     have HNE:Hid (¬d=4∨¬x2.o=5):=hid (.inr h5);clear h4 h5;exact zCA_0
 · have b4:((d:Int)==4)=false:=by simp;omega
   have HNE:Hid (¬d=4∨¬x2.o=5):=hid (.inl h4);clear h4;exact zCA_0
end
end Go.Proofs.YtbgodajefaahdaaGreatDoor.Ps
namespace Go.Proofs.YtbgodajefaahdaaGreatDoor.Ps
open Go.RowKit
open Go.Proofs.YtbgodajefaahdaaGreatDoor.Lx (Tk)
open Go.Proofs.YtbgodajefaahdaaGreatDoor.Ex (Ex Kin kin_iff const_one const_any cnst)
open Go.Proofs.YtbgodajefaahdaaGreatDoor.Md (Box)
set_option maxHeartbeats 300000
theorem cnst_two {n:Int} (h:n=0∨n=1):cnst 2 n=ndI 2 n:=by
 rcases h with rfl|rfl <;> rfl
section
variable {L:Lk} {g:Nat} {t:List Tk} {n:Nat}
theorem zCB_0 {p:Prop} (h:p:=by
 exact results_cell_row rfl _ _ w.heap.size 41 _ (0,0) _ rfl (box_set4 Z.out rfl) Tryz.underlying41 rfl (by kernel_rfl)
 ):p:=h
theorem zCB_1 {p:Prop} (h:p:=by
 have HBB:=HB.out;go_wp2_with fail;exact⟨rfl,PO.no (st_no HS (by assumption)) qe⟩
 ):p:=h
theorem zCB_2 {p:Prop} (h:p:=by have hb':_<=b:=hb;first|(simp at hb';omega)|omega):p:=h
set_option maxRecDepth 100000 in
theorem primary_any (hX:XC L g n) (hQ:∀u x v,Gd u->run (fE n) u=.ok x v->x.o=5->∃s m y,x=.mk 5 s m [y]/\-1000000000000<=y.n/\y.n<=1000000000000) (w:World) (hR:Rd L g t w) (hn:t.length<=n):Calls Tryz.prog 223 #[.pointer (some ⟨g,0,none⟩)] w (PO L g VX (run (prm (fE n)) t) w):=by
 have HX:=hid hX;have HQ:=hid hQ;have HN:=hid hn;have HNT:Hid (t.tail.length<=n):=hid (by rw[List.length_tail];omega);have fk:=fld_k (hd t).k (hd t).n (hd t).l (hd t).t;clear hX hQ hn;obtain⟨r,hr⟩:∃r,run (prm (fE n)) t=r:=⟨_,rfl⟩
 rw[hr];have HS:=hid hr;have hg:=hR.blk;have HR:=hid hR;have HB:Hid (Bt g w w):=hid (Eqv.refl _ _);clear hR hr;have Z:=hid (Box.new (w:=w) (t:=41) (c:=#[.int .i64 0,.string ⟨#[]⟩,.int .i64 0,.slice none 0 0]));go_enter Tryz.func223,Tryz.ntmps223;go_wp2_with fail;refine(token_any _ (HR.out.low qe)).mono ?_;rintro e w1 ⟨rfl,hb1⟩;have b1:Bt g _ w1:=Eqv.of hb1;have R1:Rd L g _ w1:=HR.out.low (by have q:Lw g _ w1:=Eqv.of hb1;exact qe);clear hb1;replace Z:=hid (box_at (w2:=w1) Z.out qe);replace HB:Hid (Bt g w w1):=hid qh;replace HR:=hid R1;clear b1 R1;unfold tv;have hz1:=Z.out.lt;by_cases hk:(hd t).k=2
 · have e1:((hd t).k==2)=true:=by simp[hk]
   replace HS:=st_kd HS hk;clear hk;go_wp2_with fail;clear fk e1;refine(number_any _ (HR.out.low qe)).mono ?_;rintro e w2 h2;rcases h2.cases with⟨x2,u2,v2,r2,rfl,b2,V2,R2⟩|⟨u2,r2,rfl,b2⟩
   rotate_left 1
   · exact zCB_1
   replace HS:=st_ok HS r2;replace Z:=hid (box_at (w2:=w2) Z.out qe);replace HB:Hid (Bt g w w2):=hid qh;replace HR:=hid R2;clear b2 R2;clear r2 h2;obtain⟨rfl,n0,n1⟩:=V2;go_wp2_with fail;refine(const_one x2 _).mono ?_;rintro e w4 ⟨rfl,hb4⟩;have b4:Bt g _ w4:=Eqv.of hb4;have R4:Rd L g u2 w4:=HR.out.low (by have q:Lw g _ w4:=Eqv.of hb4;exact qe);replace Z:=hid (box_at (w2:=w4) Z.out qe);replace HB:Hid (Bt g w w4):=hid qh;replace HR:=hid R4;clear b4 R4;clear hb4;have y0:World.cell? _ ⟨_,0,none⟩=some (.int .i64 0):=Z.out.get rfl;have y1:World.cell? _ ⟨_,1,none⟩=some (.string ⟨#[]⟩):=Z.out.get rfl;have y2:World.cell? _ ⟨_,2,none⟩=some (.int .i64 0):=Z.out.get rfl;have y3:World.cell? _ ⟨_,3,none⟩=some (.slice none 0 0):=Z.out.get rfl;have fz:∀i,World.frozen? _ ⟨_,i,none⟩=false:=fun i=>box_frz (i:=i) Z.out;go_wp2_with fail;have KC:Hid (Kin (fun b=>w.heap.size<b) w4 (ndI 1 x2) none 0):=hid Ex.Kin.zero;have HBB:=HB.out;refine bodyPost_ret (v:=.agg (cEx (ndI 1 x2) (none) 0 0)) ?_ rfl (PO.ok (st_end HS) qe ⟨(none),0,0,rfl,?_⟩ (HR.out.low qe))
   · exact zCB_0
   · have KK:=KC.out;exact kin_fin KK qe
 have e1:((hd t).k==2)=false:=by simp[hk]
 replace HS:=st_nk HS hk;clear hk;go_wp2_with fail;clear fk e1;refine(sees_any kTrue _ (HR.out.low qe)).mono ?_;rintro e w2 ⟨rfl,hb2⟩;have b2:Bt g _ w2:=Eqv.of hb2;have R2:Rd L g _ w2:=HR.out.low (by have q:Lw g _ w2:=Eqv.of hb2;exact qe);clear hb2;replace Z:=hid (box_at (w2:=w2) Z.out qe);replace HB:Hid (Bt g w w2):=hid qh;replace HR:=hid R2;clear b2 R2
 cases i2:is kTrue t
 rotate_left 1
 · replace HS:=st_see HS i2;clear i2;go_wp2_with fail;refine(truth_any _ (HR.out.low qe)).mono ?_;rintro e w3 h3;rcases h3.cases with⟨x3,u3,v3,r3,rfl,b3,V3,R3⟩|⟨u3,r3,rfl,b3⟩
   rotate_left 1
   · exact zCB_1
   replace HS:=st_ok HS r3;replace Z:=hid (box_at (w2:=w3) Z.out qe);replace HB:Hid (Bt g w w3):=hid qh;replace HR:=hid R3;clear b3 R3;clear r3 h3;obtain⟨rfl,n0⟩:=V3;go_wp2_with fail;refine(const_any 2 x3 _).mono ?_;rintro e w4 ⟨p4,m4,c4,rfl,hk4,hb4⟩;rw[cnst_two n0] at hk4 ⊢;obtain rfl:0=m4:=(kin_iff.1 hk4).1;have b4:Bt g _ w4:=Eqv.of hb4;have R4:Rd L g u3 w4:=HR.out.low (by have q:Lw g _ w4:=Eqv.of hb4;exact qe);replace Z:=hid (box_at (w2:=w4) Z.out qe);replace HB:Hid (Bt g w w4):=hid qh;replace HR:=hid R4;clear b4 R4;clear hb4 hk4;have y0:World.cell? _ ⟨_,0,none⟩=some (.int .i64 0):=Z.out.get rfl;have y1:World.cell? _ ⟨_,1,none⟩=some (.string ⟨#[]⟩):=Z.out.get rfl;have y2:World.cell? _ ⟨_,2,none⟩=some (.int .i64 0):=Z.out.get rfl;have y3:World.cell? _ ⟨_,3,none⟩=some (.slice none 0 0):=Z.out.get rfl;have fz:∀i,World.frozen? _ ⟨_,i,none⟩=false:=fun i=>box_frz (i:=i) Z.out;go_wp2_with fail;have KC:Hid (Kin (fun b=>w.heap.size<b) w4 (ndI 2 x3) p4 0):=hid Ex.Kin.zero;have HBB:=HB.out;refine bodyPost_ret (v:=.agg (cEx (ndI 2 x3) (p4) 0 c4)) ?_ rfl (PO.ok (st_end HS) qe ⟨(p4),0,c4,rfl,?_⟩ (HR.out.low qe))
   · exact zCB_0
   · have KK:=KC.out;exact kin_fin KK qe
 replace HS:=st_out HS i2;clear i2;go_wp2_with fail;refine(sees_any kFalse _ (HR.out.low qe)).mono ?_;rintro e w3 ⟨rfl,hb3⟩;have b3:Bt g _ w3:=Eqv.of hb3;have R3:Rd L g _ w3:=HR.out.low (by have q:Lw g _ w3:=Eqv.of hb3;exact qe);clear hb3;replace Z:=hid (box_at (w2:=w3) Z.out qe);replace HB:Hid (Bt g w w3):=hid qh;replace HR:=hid R3;clear b3 R3
 cases i3:is kFalse t
 rotate_left 1
 · replace HS:=st_see HS i3;clear i3;go_wp2_with fail;refine(truth_any _ (HR.out.low qe)).mono ?_;rintro e w4 h4;rcases h4.cases with⟨x4,u4,v4,r4,rfl,b4,V4,R4⟩|⟨u4,r4,rfl,b4⟩
   rotate_left 1
   · exact zCB_1
   replace HS:=st_ok HS r4;replace Z:=hid (box_at (w2:=w4) Z.out qe);replace HB:Hid (Bt g w w4):=hid qh;replace HR:=hid R4;clear b4 R4;clear r4 h4;obtain⟨rfl,n0⟩:=V4;go_wp2_with fail;refine(const_any 2 x4 _).mono ?_;rintro e w5 ⟨p5,m5,c5,rfl,hk5,hb5⟩;rw[cnst_two n0] at hk5 ⊢;obtain rfl:0=m5:=(kin_iff.1 hk5).1;have b5:Bt g _ w5:=Eqv.of hb5;have R5:Rd L g u4 w5:=HR.out.low (by have q:Lw g _ w5:=Eqv.of hb5;exact qe);replace Z:=hid (box_at (w2:=w5) Z.out qe);replace HB:Hid (Bt g w w5):=hid qh;replace HR:=hid R5;clear b5 R5;clear hb5 hk5;have y0:World.cell? _ ⟨_,0,none⟩=some (.int .i64 0):=Z.out.get rfl;have y1:World.cell? _ ⟨_,1,none⟩=some (.string ⟨#[]⟩):=Z.out.get rfl;have y2:World.cell? _ ⟨_,2,none⟩=some (.int .i64 0):=Z.out.get rfl;have y3:World.cell? _ ⟨_,3,none⟩=some (.slice none 0 0):=Z.out.get rfl;have fz:∀i,World.frozen? _ ⟨_,i,none⟩=false:=fun i=>box_frz (i:=i) Z.out;go_wp2_with fail;have KC:Hid (Kin (fun b=>w.heap.size<b) w5 (ndI 2 x4) p5 0):=hid Ex.Kin.zero;have HBB:=HB.out;refine bodyPost_ret (v:=.agg (cEx (ndI 2 x4) (p5) 0 c5)) ?_ rfl (PO.ok (st_end HS) qe ⟨(p5),0,c5,rfl,?_⟩ (HR.out.low qe))
   · exact zCB_0
   · have KK:=KC.out;exact kin_fin KK qe
 replace HS:=st_out HS i3;clear i3;go_wp2_with fail;refine(accept_any kNow _ (HR.out.low qe) (by decide)).mono ?_;rintro e w4 ⟨b4,⟨i4,rfl,R4⟩|⟨i4,rfl,R4⟩⟩
 · replace HS:=st_yes HS i4;replace Z:=hid (box_at (w2:=w4) Z.out qe);replace HB:Hid (Bt g w w4):=hid qh;replace HR:=hid R4;clear b4 R4;clear i4;have y0:World.cell? _ ⟨_,0,none⟩=some (.int .i64 0):=Z.out.get rfl;have y1:World.cell? _ ⟨_,1,none⟩=some (.string ⟨#[]⟩):=Z.out.get rfl;have y2:World.cell? _ ⟨_,2,none⟩=some (.int .i64 0):=Z.out.get rfl;have y3:World.cell? _ ⟨_,3,none⟩=some (.slice none 0 0):=Z.out.get rfl;have fz:∀i,World.frozen? _ ⟨_,i,none⟩=false:=fun i=>box_frz (i:=i) Z.out;go_wp2_with fail;have KC:Hid (Kin (fun b=>w.heap.size<b) w4 (nd0 4) none 0):=hid Ex.Kin.zero;have HBB:=HB.out;refine bodyPost_ret (v:=.agg (cEx (nd0 4) (none) 0 0)) ?_ rfl (PO.ok (st_end HS) qe ⟨(none),0,0,rfl,?_⟩ (HR.out.low qe))
   · exact zCB_0
   · have KK:=KC.out;exact kin_fin KK qe
 replace HS:=st_not HS i4;replace Z:=hid (box_at (w2:=w4) Z.out qe);replace HB:Hid (Bt g w w4):=hid qh;replace HR:=hid R4;clear b4 R4;clear i4;go_wp2_with fail;refine(accept_any kDur _ (HR.out.low qe) (by decide)).mono ?_;rintro e w5 ⟨b5,⟨i5,rfl,R5⟩|⟨i5,rfl,R5⟩⟩
 · replace HS:=st_yes HS i5;replace Z:=hid (box_at (w2:=w5) Z.out qe);replace HB:Hid (Bt g w w5):=hid qh;replace HR:=hid R5;clear b5 R5;clear i5;go_wp2_with fail;have hz6:=Z.out.lt;refine(ofOne_any HX.out 7 _ (HR.out.low qe) HNT.out).mono ?_;rintro e w6 h6;rcases h6.cases with⟨x6,u6,v6,r6,rfl,b6,V6,R6⟩|⟨u6,r6,rfl,b6⟩
   rotate_left 1
   · have HBB:=HB.out;go_wp2_with fail;exact⟨rfl,PO.no (HS.out.symm.trans r6) qe⟩
   have HL6:=hid (HS.out.symm.trans r6);replace Z:=hid (box_at (w2:=w6) Z.out qe);replace HB:Hid (Bt g w w6):=hid qh;replace HR:=hid R6;clear b6 R6;clear r6 h6;obtain⟨p6,m6,c6,rfl,k6⟩:=V6;have KX6:Hid (Kin (fun b=>w.heap.size<b) w6 x6 p6 m6):=hid (k6.mono fun b hb hlt=>zCB_2);clear k6;dsimp only [cEx];have y0:World.cell? _ ⟨_,0,none⟩=some (.int .i64 0):=Z.out.get rfl;have y1:World.cell? _ ⟨_,1,none⟩=some (.string ⟨#[]⟩):=Z.out.get rfl;have y2:World.cell? _ ⟨_,2,none⟩=some (.int .i64 0):=Z.out.get rfl;have y3:World.cell? _ ⟨_,3,none⟩=some (.slice none 0 0):=Z.out.get rfl;have fz:∀i,World.frozen? _ ⟨_,i,none⟩=false:=fun i=>box_frz (i:=i) Z.out;go_wp2_with fail;have HBB:=HB.out;refine bodyPost_ret (v:=.agg (cEx (x6) (p6) m6 c6)) ?_ rfl (PO.ok HL6.out qe ⟨(p6),m6,c6,rfl,?_⟩ (HR.out.low qe))
   · exact zCB_0
   · have KK:=KX6.out;exact kin_fin KK qe
 replace HS:=st_not HS i5;replace Z:=hid (box_at (w2:=w5) Z.out qe);replace HB:Hid (Bt g w w5):=hid qh;replace HR:=hid R5;clear b5 R5;clear i5;go_wp2_with fail;refine(accept_any kTicks _ (HR.out.low qe) (by decide)).mono ?_;rintro e w6 ⟨b6,⟨i6,rfl,R6⟩|⟨i6,rfl,R6⟩⟩
 · replace HS:=st_yes HS i6;replace Z:=hid (box_at (w2:=w6) Z.out qe);replace HB:Hid (Bt g w w6):=hid qh;replace HR:=hid R6;clear b6 R6;clear i6;go_wp2_with fail;have hz7:=Z.out.lt;refine(ofOne_any HX.out 8 _ (HR.out.low qe) HNT.out).mono ?_;rintro e w7 h7;rcases h7.cases with⟨x7,u7,v7,r7,rfl,b7,V7,R7⟩|⟨u7,r7,rfl,b7⟩
   rotate_left 1
   · have HBB:=HB.out;go_wp2_with fail;exact⟨rfl,PO.no (HS.out.symm.trans r7) qe⟩
   have HL7:=hid (HS.out.symm.trans r7);replace Z:=hid (box_at (w2:=w7) Z.out qe);replace HB:Hid (Bt g w w7):=hid qh;replace HR:=hid R7;clear b7 R7;clear r7 h7;obtain⟨p7,m7,c7,rfl,k7⟩:=V7;have KX7:Hid (Kin (fun b=>w.heap.size<b) w7 x7 p7 m7):=hid (k7.mono fun b hb hlt=>zCB_2);clear k7;dsimp only [cEx];have y0:World.cell? _ ⟨_,0,none⟩=some (.int .i64 0):=Z.out.get rfl;have y1:World.cell? _ ⟨_,1,none⟩=some (.string ⟨#[]⟩):=Z.out.get rfl;have y2:World.cell? _ ⟨_,2,none⟩=some (.int .i64 0):=Z.out.get rfl;have y3:World.cell? _ ⟨_,3,none⟩=some (.slice none 0 0):=Z.out.get rfl;have fz:∀i,World.frozen? _ ⟨_,i,none⟩=false:=fun i=>box_frz (i:=i) Z.out;go_wp2_with fail;have HBB:=HB.out;refine bodyPost_ret (v:=.agg (cEx (x7) (p7) m7 c7)) ?_ rfl (PO.ok HL7.out qe ⟨(p7),m7,c7,rfl,?_⟩ (HR.out.low qe))
   · exact zCB_0
   · have KK:=KX7.out;exact kin_fin KK qe
 replace HS:=st_not HS i6;replace Z:=hid (box_at (w2:=w6) Z.out qe);replace HB:Hid (Bt g w w6):=hid qh;replace HR:=hid R6;clear b6 R6;clear i6;go_wp2_with fail;refine(accept_any kMin _ (HR.out.low qe) (by decide)).mono ?_;rintro e w7 ⟨b7,⟨i7,rfl,R7⟩|⟨i7,rfl,R7⟩⟩
 · replace HS:=st_yes HS i7;replace Z:=hid (box_at (w2:=w7) Z.out qe);replace HB:Hid (Bt g w w7):=hid qh;replace HR:=hid R7;clear b7 R7;clear i7;go_wp2_with fail;have hz8:=Z.out.lt;refine(ofTwo_any HX.out 20 _ (HR.out.low qe) HNT.out).mono ?_;rintro e w8 h8;rcases h8.cases with⟨x8,u8,v8,r8,rfl,b8,V8,R8⟩|⟨u8,r8,rfl,b8⟩
   rotate_left 1
   · have HBB:=HB.out;go_wp2_with fail;exact⟨rfl,PO.no (HS.out.symm.trans r8) qe⟩
   have HL8:=hid (HS.out.symm.trans r8);replace Z:=hid (box_at (w2:=w8) Z.out qe);replace HB:Hid (Bt g w w8):=hid qh;replace HR:=hid R8;clear b8 R8;clear r8 h8;obtain⟨p8,m8,c8,rfl,k8⟩:=V8;have KX8:Hid (Kin (fun b=>w.heap.size<b) w8 x8 p8 m8):=hid (k8.mono fun b hb hlt=>zCB_2);clear k8;dsimp only [cEx];have y0:World.cell? _ ⟨_,0,none⟩=some (.int .i64 0):=Z.out.get rfl;have y1:World.cell? _ ⟨_,1,none⟩=some (.string ⟨#[]⟩):=Z.out.get rfl;have y2:World.cell? _ ⟨_,2,none⟩=some (.int .i64 0):=Z.out.get rfl;have y3:World.cell? _ ⟨_,3,none⟩=some (.slice none 0 0):=Z.out.get rfl;have fz:∀i,World.frozen? _ ⟨_,i,none⟩=false:=fun i=>box_frz (i:=i) Z.out;go_wp2_with fail;have HBB:=HB.out;refine bodyPost_ret (v:=.agg (cEx (x8) (p8) m8 c8)) ?_ rfl (PO.ok HL8.out qe ⟨(p8),m8,c8,rfl,?_⟩ (HR.out.low qe))
   · exact zCB_0
   · have KK:=KX8.out;exact kin_fin KK qe
 replace HS:=st_not HS i7;replace Z:=hid (box_at (w2:=w7) Z.out qe);replace HB:Hid (Bt g w w7):=hid qh;replace HR:=hid R7;clear b7 R7;clear i7;go_wp2_with fail;refine(accept_any kMax _ (HR.out.low qe) (by decide)).mono ?_;rintro e w8 ⟨b8,⟨i8,rfl,R8⟩|⟨i8,rfl,R8⟩⟩
 · replace HS:=st_yes HS i8;replace Z:=hid (box_at (w2:=w8) Z.out qe);replace HB:Hid (Bt g w w8):=hid qh;replace HR:=hid R8;clear b8 R8;clear i8;go_wp2_with fail;have hz9:=Z.out.lt;refine(ofTwo_any HX.out 21 _ (HR.out.low qe) HNT.out).mono ?_;rintro e w9 h9;rcases h9.cases with⟨x9,u9,v9,r9,rfl,b9,V9,R9⟩|⟨u9,r9,rfl,b9⟩
   rotate_left 1
   · have HBB:=HB.out;go_wp2_with fail;exact⟨rfl,PO.no (HS.out.symm.trans r9) qe⟩
   have HL9:=hid (HS.out.symm.trans r9);replace Z:=hid (box_at (w2:=w9) Z.out qe);replace HB:Hid (Bt g w w9):=hid qh;replace HR:=hid R9;clear b9 R9;clear r9 h9;obtain⟨p9,m9,c9,rfl,k9⟩:=V9;have KX9:Hid (Kin (fun b=>w.heap.size<b) w9 x9 p9 m9):=hid (k9.mono fun b hb hlt=>zCB_2);clear k9;dsimp only [cEx];have y0:World.cell? _ ⟨_,0,none⟩=some (.int .i64 0):=Z.out.get rfl;have y1:World.cell? _ ⟨_,1,none⟩=some (.string ⟨#[]⟩):=Z.out.get rfl;have y2:World.cell? _ ⟨_,2,none⟩=some (.int .i64 0):=Z.out.get rfl;have y3:World.cell? _ ⟨_,3,none⟩=some (.slice none 0 0):=Z.out.get rfl;have fz:∀i,World.frozen? _ ⟨_,i,none⟩=false:=fun i=>box_frz (i:=i) Z.out;go_wp2_with fail;have HBB:=HB.out;refine bodyPost_ret (v:=.agg (cEx (x9) (p9) m9 c9)) ?_ rfl (PO.ok HL9.out qe ⟨(p9),m9,c9,rfl,?_⟩ (HR.out.low qe))
   · exact zCB_0
   · have KK:=KX9.out;exact kin_fin KK qe
 replace HS:=st_not HS i8;replace Z:=hid (box_at (w2:=w8) Z.out qe);replace HB:Hid (Bt g w w8):=hid qh;replace HR:=hid R8;clear b8 R8;clear i8;go_wp2_with fail;refine(accept_any kFree _ (HR.out.low qe) (by decide)).mono ?_;rintro e w9 ⟨b9,⟨i9,rfl,R9⟩|⟨i9,rfl,R9⟩⟩
 · replace HS:=st_yes HS i9;replace Z:=hid (box_at (w2:=w9) Z.out qe);replace HB:Hid (Bt g w w9):=hid qh;replace HR:=hid R9;clear b9 R9;clear i9;go_wp2_with fail;have hz10:=Z.out.lt;refine(ofName_any 22 _ (HR.out.low qe)).mono ?_;rintro e w10 h10;rcases h10.cases with⟨x10,u10,v10,r10,rfl,b10,V10,R10⟩|⟨u10,r10,rfl,b10⟩
   rotate_left 1
   · have HBB:=HB.out;go_wp2_with fail;exact⟨rfl,PO.no (HS.out.symm.trans r10) qe⟩
   have HL10:=hid (HS.out.symm.trans r10);replace Z:=hid (box_at (w2:=w10) Z.out qe);replace HB:Hid (Bt g w w10):=hid qh;replace HR:=hid R10;clear b10 R10;clear r10 h10;obtain⟨p10,m10,c10,rfl,k10⟩:=V10;have KX10:Hid (Kin (fun b=>w.heap.size<b) w10 x10 p10 m10):=hid (k10.mono fun b hb hlt=>zCB_2);clear k10;dsimp only [cEx];have y0:World.cell? _ ⟨_,0,none⟩=some (.int .i64 0):=Z.out.get rfl;have y1:World.cell? _ ⟨_,1,none⟩=some (.string ⟨#[]⟩):=Z.out.get rfl;have y2:World.cell? _ ⟨_,2,none⟩=some (.int .i64 0):=Z.out.get rfl;have y3:World.cell? _ ⟨_,3,none⟩=some (.slice none 0 0):=Z.out.get rfl;have fz:∀i,World.frozen? _ ⟨_,i,none⟩=false:=fun i=>box_frz (i:=i) Z.out;go_wp2_with fail;have HBB:=HB.out;refine bodyPost_ret (v:=.agg (cEx (x10) (p10) m10 c10)) ?_ rfl (PO.ok HL10.out qe ⟨(p10),m10,c10,rfl,?_⟩ (HR.out.low qe))
   · exact zCB_0
   · have KK:=KX10.out;exact kin_fin KK qe
 replace HS:=st_not HS i9;replace Z:=hid (box_at (w2:=w9) Z.out qe);replace HB:Hid (Bt g w w9):=hid qh;replace HR:=hid R9;clear b9 R9;clear i9;go_wp2_with fail;refine(accept_any kSize _ (HR.out.low qe) (by decide)).mono ?_;rintro e w10 ⟨b10,⟨i10,rfl,R10⟩|⟨i10,rfl,R10⟩⟩
 · replace HS:=st_yes HS i10;replace Z:=hid (box_at (w2:=w10) Z.out qe);replace HB:Hid (Bt g w w10):=hid qh;replace HR:=hid R10;clear b10 R10;clear i10;go_wp2_with fail;have hz11:=Z.out.lt;refine(ofName_any 23 _ (HR.out.low qe)).mono ?_;rintro e w11 h11;rcases h11.cases with⟨x11,u11,v11,r11,rfl,b11,V11,R11⟩|⟨u11,r11,rfl,b11⟩
   rotate_left 1
   · have HBB:=HB.out;go_wp2_with fail;exact⟨rfl,PO.no (HS.out.symm.trans r11) qe⟩
   have HL11:=hid (HS.out.symm.trans r11);replace Z:=hid (box_at (w2:=w11) Z.out qe);replace HB:Hid (Bt g w w11):=hid qh;replace HR:=hid R11;clear b11 R11;clear r11 h11;obtain⟨p11,m11,c11,rfl,k11⟩:=V11;have KX11:Hid (Kin (fun b=>w.heap.size<b) w11 x11 p11 m11):=hid (k11.mono fun b hb hlt=>zCB_2);clear k11;dsimp only [cEx];have y0:World.cell? _ ⟨_,0,none⟩=some (.int .i64 0):=Z.out.get rfl;have y1:World.cell? _ ⟨_,1,none⟩=some (.string ⟨#[]⟩):=Z.out.get rfl;have y2:World.cell? _ ⟨_,2,none⟩=some (.int .i64 0):=Z.out.get rfl;have y3:World.cell? _ ⟨_,3,none⟩=some (.slice none 0 0):=Z.out.get rfl;have fz:∀i,World.frozen? _ ⟨_,i,none⟩=false:=fun i=>box_frz (i:=i) Z.out;go_wp2_with fail;have HBB:=HB.out;refine bodyPost_ret (v:=.agg (cEx (x11) (p11) m11 c11)) ?_ rfl (PO.ok HL11.out qe ⟨(p11),m11,c11,rfl,?_⟩ (HR.out.low qe))
   · exact zCB_0
   · have KK:=KX11.out;exact kin_fin KK qe
 replace HS:=st_not HS i10;replace Z:=hid (box_at (w2:=w10) Z.out qe);replace HB:Hid (Bt g w w10):=hid qh;replace HR:=hid R10;clear b10 R10;clear i10;go_wp2_with fail;refine(accept_any kWaiting _ (HR.out.low qe) (by decide)).mono ?_;rintro e w11 ⟨b11,⟨i11,rfl,R11⟩|⟨i11,rfl,R11⟩⟩
 · replace HS:=st_yes HS i11;replace Z:=hid (box_at (w2:=w11) Z.out qe);replace HB:Hid (Bt g w w11):=hid qh;replace HR:=hid R11;clear b11 R11;clear i11;go_wp2_with fail;have hz12:=Z.out.lt;refine(ofName_any 24 _ (HR.out.low qe)).mono ?_;rintro e w12 h12;rcases h12.cases with⟨x12,u12,v12,r12,rfl,b12,V12,R12⟩|⟨u12,r12,rfl,b12⟩
   rotate_left 1
   · have HBB:=HB.out;go_wp2_with fail;exact⟨rfl,PO.no (HS.out.symm.trans r12) qe⟩
   have HL12:=hid (HS.out.symm.trans r12);replace Z:=hid (box_at (w2:=w12) Z.out qe);replace HB:Hid (Bt g w w12):=hid qh;replace HR:=hid R12;clear b12 R12;clear r12 h12;obtain⟨p12,m12,c12,rfl,k12⟩:=V12;have KX12:Hid (Kin (fun b=>w.heap.size<b) w12 x12 p12 m12):=hid (k12.mono fun b hb hlt=>zCB_2);clear k12;dsimp only [cEx];have y0:World.cell? _ ⟨_,0,none⟩=some (.int .i64 0):=Z.out.get rfl;have y1:World.cell? _ ⟨_,1,none⟩=some (.string ⟨#[]⟩):=Z.out.get rfl;have y2:World.cell? _ ⟨_,2,none⟩=some (.int .i64 0):=Z.out.get rfl;have y3:World.cell? _ ⟨_,3,none⟩=some (.slice none 0 0):=Z.out.get rfl;have fz:∀i,World.frozen? _ ⟨_,i,none⟩=false:=fun i=>box_frz (i:=i) Z.out;go_wp2_with fail;have HBB:=HB.out;refine bodyPost_ret (v:=.agg (cEx (x12) (p12) m12 c12)) ?_ rfl (PO.ok HL12.out qe ⟨(p12),m12,c12,rfl,?_⟩ (HR.out.low qe))
   · exact zCB_0
   · have KK:=KX12.out;exact kin_fin KK qe
 replace HS:=st_not HS i11;replace Z:=hid (box_at (w2:=w11) Z.out qe);replace HB:Hid (Bt g w w11):=hid qh;replace HR:=hid R11;clear b11 R11;clear i11;go_wp2_with fail;refine(sees_any zLpar _ (HR.out.low qe)).mono ?_;rintro e w12 ⟨rfl,hb12⟩;have b12:Bt g _ w12:=Eqv.of hb12;have R12:Rd L g _ w12:=HR.out.low (by have q:Lw g _ w12:=Eqv.of hb12;exact qe);clear hb12;replace Z:=hid (box_at (w2:=w12) Z.out qe);replace HB:Hid (Bt g w w12):=hid qh;replace HR:=hid R12;clear b12 R12
 cases i12:is zLpar t
 rotate_left 1
 · replace HS:=st_see HS i12;clear i12;go_wp2_with fail;have hz13:=Z.out.lt;refine(group_any HX.out HQ.out _ (HR.out.low qe) HN.out).mono ?_;rintro e w13 h13;rcases h13.cases with⟨x13,u13,v13,r13,rfl,b13,V13,R13⟩|⟨u13,r13,rfl,b13⟩
   rotate_left 1
   · have HBB:=HB.out;go_wp2_with fail;exact⟨rfl,PO.no (HS.out.symm.trans r13) qe⟩
   have HL13:=hid (HS.out.symm.trans r13);replace Z:=hid (box_at (w2:=w13) Z.out qe);replace HB:Hid (Bt g w w13):=hid qh;replace HR:=hid R13;clear b13 R13;clear r13 h13;obtain⟨p13,m13,c13,rfl,k13⟩:=V13;have KX13:Hid (Kin (fun b=>w.heap.size<b) w13 x13 p13 m13):=hid (k13.mono fun b hb hlt=>zCB_2);clear k13;dsimp only [cEx];have y0:World.cell? _ ⟨_,0,none⟩=some (.int .i64 0):=Z.out.get rfl;have y1:World.cell? _ ⟨_,1,none⟩=some (.string ⟨#[]⟩):=Z.out.get rfl;have y2:World.cell? _ ⟨_,2,none⟩=some (.int .i64 0):=Z.out.get rfl;have y3:World.cell? _ ⟨_,3,none⟩=some (.slice none 0 0):=Z.out.get rfl;have fz:∀i,World.frozen? _ ⟨_,i,none⟩=false:=fun i=>box_frz (i:=i) Z.out;go_wp2_with fail;have HBB:=HB.out;refine bodyPost_ret (v:=.agg (cEx (x13) (p13) m13 c13)) ?_ rfl (PO.ok HL13.out qe ⟨(p13),m13,c13,rfl,?_⟩ (HR.out.low qe))
   · exact zCB_0
   · have KK:=KX13.out;exact kin_fin KK qe
 replace HS:=st_out HS i12;clear i12;go_wp2_with fail;refine(name_any _ (HR.out.low qe)).mono ?_;rintro e w13 h13;rcases h13.cases with⟨x13,u13,v13,r13,rfl,b13,V13,R13⟩|⟨u13,r13,rfl,b13⟩
 rotate_left 1
 · exact zCB_1
 replace HS:=st_ok HS r13;replace Z:=hid (box_at (w2:=w13) Z.out qe);replace HB:Hid (Bt g w w13):=hid qh;replace HR:=hid R13;clear b13 R13;clear r13 h13;obtain rfl:=V13;have y0:World.cell? _ ⟨_,0,none⟩=some (.int .i64 0):=Z.out.get rfl;have y1:World.cell? _ ⟨_,1,none⟩=some (.string ⟨#[]⟩):=Z.out.get rfl;have y2:World.cell? _ ⟨_,2,none⟩=some (.int .i64 0):=Z.out.get rfl;have y3:World.cell? _ ⟨_,3,none⟩=some (.slice none 0 0):=Z.out.get rfl;have fz:∀i,World.frozen? _ ⟨_,i,none⟩=false:=fun i=>box_frz (i:=i) Z.out;go_wp2_with fail;have KC:Hid (Kin (fun b=>w.heap.size<b) w13 (ndN 3 x13) none 0):=hid Ex.Kin.zero;have HBB:=HB.out;refine bodyPost_ret (v:=.agg (cEx (ndN 3 x13) (none) 0 0)) ?_ rfl (PO.ok (st_end HS) qe ⟨(none),0,0,rfl,?_⟩ (HR.out.low qe))
 · exact zCB_0
 · have KK:=KC.out;exact kin_fin KK qe
set_option maxRecDepth 100000 in
theorem factor_any (hX:XC L g n) (hQ:∀u x v,Gd u->run (fE n) u=.ok x v->x.o=5->∃s m y,x=.mk 5 s m [y]/\-1000000000000<=y.n/\y.n<=1000000000000) (w:World) (hR:Rd L g t w) (hn:t.length<=n):Calls Tryz.prog 208 #[.pointer (some ⟨g,0,none⟩)] w (PO L g VX (run (fac (fE n) (fF n)) t) w):=by
 have HX:=hid hX;have HQ:=hid hQ;have HN:=hid hn;have HD:Hid (is zMinus t=true->t.tail.length<n):=hid fun h=>by have h2:=hR.gd.ne;rw[List.length_tail];omega
 clear hX hQ hn;obtain⟨r,hr⟩:∃r,run (fac (fE n) (fF n)) t=r:=⟨_,rfl⟩
 rw[hr];have HS:=hid hr;have hg:=hR.blk;have HR:=hid hR;have HB:Hid (Bt g w w):=hid (Eqv.refl _ _);clear hR hr;have Z:=hid (Box.new (w:=w) (t:=41) (c:=#[.int .i64 0,.string ⟨#[]⟩,.int .i64 0,.slice none 0 0]));go_enter Tryz.func208,Tryz.ntmps208;go_wp2_with fail;refine(accept_any zMinus _ (HR.out.low qe) (by decide)).mono ?_;rintro e w1 ⟨b1,⟨i1,rfl,R1⟩|⟨i1,rfl,R1⟩⟩
 · have HT:=hid (HD.out i1);replace HS:=st_yes HS i1;replace Z:=hid (box_at (w2:=w1) Z.out qe);replace HB:Hid (Bt g w w1):=hid qh;replace HR:=hid R1;clear b1 R1;clear i1;go_wp2_with fail;have hz1:=Z.out.lt;refine(HX.out.xf _ _ (HR.out.low qe) HT.out).mono ?_;rintro e w2 h2;rcases h2.cases with⟨x2,u2,v2,r2,rfl,b2,V2,R2⟩|⟨u2,r2,rfl,b2⟩
   rotate_left 1
   · exact zCB_1
   replace HS:=st_ok HS r2;replace Z:=hid (box_at (w2:=w2) Z.out qe);replace HB:Hid (Bt g w w2):=hid qh;replace HR:=hid R2;clear b2 R2;clear r2 h2;obtain⟨p2,m2,c2,rfl,k2⟩:=V2;have KX2:Hid (Kin (fun b=>w.heap.size<b) w2 x2 p2 m2):=hid (k2.mono fun b hb hlt=>zCB_2);clear k2;dsimp only [cEx];go_wp2_with fail;refine(node_any _ _ _ _ _).mono ?_;rintro e w3 ⟨rfl,hb3⟩;have b3:Bt g _ w3:=Eqv.of hb3;have R3:Rd L g u2 w3:=HR.out.low (by have q:Lw g _ w3:=Eqv.of hb3;exact qe);have hzz:=Z.out.lt;have KN:Hid (Kin (fun b=>w.heap.size<b) w3 (nd1 5 x2) (some ⟨w2.heap.size,0,none⟩) 1):=hid (Ex.Kin.map hb3.size (fun b hb hlt=>⟨hb,hb3.block b hlt⟩) _ (kin1 (c:=c2) 5 KX2.out hzz));replace Z:=hid (box_at (w2:=w3) Z.out qe);replace HB:Hid (Bt g w w3):=hid qh;replace HR:=hid R3;clear b3 R3;clear hb3;have y0:World.cell? _ ⟨_,0,none⟩=some (.int .i64 0):=Z.out.get rfl;have y1:World.cell? _ ⟨_,1,none⟩=some (.string ⟨#[]⟩):=Z.out.get rfl;have y2:World.cell? _ ⟨_,2,none⟩=some (.int .i64 0):=Z.out.get rfl;have y3:World.cell? _ ⟨_,3,none⟩=some (.slice none 0 0):=Z.out.get rfl;have fz:∀i,World.frozen? _ ⟨_,i,none⟩=false:=fun i=>box_frz (i:=i) Z.out;go_wp2_with fail;have HBB:=HB.out;refine bodyPost_ret (v:=.agg (cEx (nd1 5 x2) (some ⟨w2.heap.size,0,none⟩) 1 1)) ?_ rfl (PO.ok (st_end HS) qe ⟨(some ⟨w2.heap.size,0,none⟩),1,1,rfl,?_⟩ (HR.out.low qe))
   · exact zCB_0
   · have KK:=KN.out;exact kin_fin KK qe
 replace HS:=st_not HS i1;replace Z:=hid (box_at (w2:=w1) Z.out qe);replace HB:Hid (Bt g w w1):=hid qh;replace HR:=hid R1;clear b1 R1;clear i1;go_wp2_with fail;have hz2:=Z.out.lt;refine(primary_any HX.out HQ.out _ (HR.out.low qe) HN.out).mono ?_;rintro e w2 h2;rcases h2.cases with⟨x2,u2,v2,r2,rfl,b2,V2,R2⟩|⟨u2,r2,rfl,b2⟩
 rotate_left 1
 · have HBB:=HB.out;go_wp2_with fail;exact⟨rfl,PO.no (HS.out.symm.trans r2) qe⟩
 have HL2:=hid (HS.out.symm.trans r2);replace Z:=hid (box_at (w2:=w2) Z.out qe);replace HB:Hid (Bt g w w2):=hid qh;replace HR:=hid R2;clear b2 R2;clear r2 h2;obtain⟨p2,m2,c2,rfl,k2⟩:=V2;have KX2:Hid (Kin (fun b=>w.heap.size<b) w2 x2 p2 m2):=hid (k2.mono fun b hb hlt=>zCB_2);clear k2;dsimp only [cEx];have y0:World.cell? _ ⟨_,0,none⟩=some (.int .i64 0):=Z.out.get rfl;have y1:World.cell? _ ⟨_,1,none⟩=some (.string ⟨#[]⟩):=Z.out.get rfl;have y2:World.cell? _ ⟨_,2,none⟩=some (.int .i64 0):=Z.out.get rfl;have y3:World.cell? _ ⟨_,3,none⟩=some (.slice none 0 0):=Z.out.get rfl;have fz:∀i,World.frozen? _ ⟨_,i,none⟩=false:=fun i=>box_frz (i:=i) Z.out;go_wp2_with fail;have HBB:=HB.out;refine bodyPost_ret (v:=.agg (cEx (x2) (p2) m2 c2)) ?_ rfl (PO.ok HL2.out qe ⟨(p2),m2,c2,rfl,?_⟩ (HR.out.low qe))
 · exact zCB_0
 · have KK:=KX2.out;exact kin_fin KK qe
end
end Go.Proofs.YtbgodajefaahdaaGreatDoor.Ps
