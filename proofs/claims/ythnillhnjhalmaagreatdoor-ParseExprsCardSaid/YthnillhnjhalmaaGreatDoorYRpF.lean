/-
  Parts of this proof: The contracts of the reference's factor and of a. The contract of the reader's group. The contract of the reader's primary. The contracts of the reader's levels of an expre.
-/
import Derived.Test.YthnillhnjhalmaaGreatDoorYRpO
open Go.Proofs.Tryz
open Go renaming bodyPost_ret->ae,Calls->ai,World->aj
open Go.Proofs.Tryz renaming prog->af
open Option renaming none->ag,some->ah
open Go.Lib renaming hid->U
set_option linter.unusedVariables false
set_option maxRecDepth 100000
set_option maxHeartbeats 2000000
open Go.Lib (hid)
namespace Go.Proofs.YthnillhnjhalmaaGreatDoor
namespace Ps
open Go.RowKit
open Lx (Tk)
open Ex (Ex bW)
open Md (bX)
structure XQ (L:Lk) (g:Nat) (n:Nat):Prop where
 xe:∀W c u,Rp L g c u W->(c=false->u.length<n)->ai af 15 #[.pointer (ah ⟨g,0,ag⟩)] W (QO L g VX (fE n) c u W)
 xn:∀W c u,Rp L g c u W->(c=false->u.length<n)->ai af 75 #[.pointer (ah ⟨g,0,ag⟩)] W (QO L g VX (fN n) c u W)
 xf:∀W c u,Rp L g c u W->(c=false->u.length<n)->ai af 209 #[.pointer (ah ⟨g,0,ag⟩)] W (QO L g VX (fF n) c u W)
section
variable {L:Lk} {g:Nat} {b:Bool} {t:List Tk} {n:Nat}
theorem ayT {p:Prop} (h:p:=by
 exact sJ
 ):p:=h
theorem am4 (hX:b=false->XQ L g n) (w:aj) (hR:Rp L g b t w) (hn:b=false->t.length<=n) (hP:∀W,Rp L g b t W->ai af 231 #[.pointer (ah ⟨g,0,ag⟩)] W (QO L g VX (wO (fE n)) b t W)):ai af 209 #[.pointer (ah ⟨g,0,ag⟩)] w (QO L g VX (rJ (fE n) (fF n)) b t w):=by
 have HX:=U hX;have HN:=U hn;have HP:=U hP;clear hX hn hP;have hg:=hR.blk;have HR:=U hR;have HB:Hid (Bt g w w):=U (bT.refl _ _);have HS:Hid (To (rJ (fE n) (fF n)) b t (rJ (fE n) (fF n)) b t):=yE;have Z:=jR w;obtain⟨z,hz⟩:∃z,(!b&&is eH t)=z:=⟨_,rfl⟩
 have HZ:=U hz;clear hz hR;go_enter func209,ntmps209;go_wp2_with fail;refine(iF eH _ (HR.out.low qe) bS bS).mono ?_;rintro e wt ⟨rfl,hbt⟩;rw[HZ.out];have q:Bt g _ wt:=bT.of hbt;have Rt:=HR.out.low (w2:=wt) (oJ hbt);replace Z:=bV Z wt;replace HB:=dJ HB wt;replace HR:=U Rt;have hz1:=Z.out.lt;clear q hbt Rt
 cases z with
 | true=>
  obtain⟨rfl,hi⟩:b=false/\is eH t=true:=by have h:=HZ.out;simpa using h
  have HI:=U hi;replace HX:=U (HX.out rfl);have HT:Hid (t.tail.length<n):=U (by have h1:=(kU HR.out.gd bS hi).2;have h2:=HN.out rfl;omega);clear hi;go_wp2_with fail;refine qr HB (qX eH _ (HR.out.low qe) bS bS) ?_;clear HB HR;rintro x2 b2 u2 v2 w2 r2 q2 rfl HR HB;obtain⟨rfl,rfl⟩:=BG HI.out r2;replace HS:=pY HS HI.out;replace Z:=bV Z w2;clear q2 r2;go_wp2_with fail;have hz2:=Z.out.lt;refine qo HS HB (HX.out.xf _ _ _ (HR.out.low qe) (fun _=>HT.out)) ?_;clear HS HB HR;rintro x3 b3 u3 v3 w3-HS q3 ⟨p3,m3,c3,rfl,k3⟩ HR HB;replace Z:=bV Z w3;clear q3;have hz3:=Z.out.lt;have K3:=jv k3 w.heap.size;clear k3;dsimp only [b_];go_wp2_with fail;refine(Nz _ _ _ _ _ _).mono ?_;rintro e w4 ⟨hb4,B4,hB4,rfl,hk4⟩;have q:Bt g _ w4:=bT.of hb4;have R4:=HR.out.low (w2:=w4) (oJ hb4);have K4:=U (hk4 _ K3.out bU);replace Z:=bV Z w4;replace HB:=dJ HB w4;replace HR:=U R4;clear q hb4 R4 hk4 K3;dsimp only [b_];obtain⟨y0,y1,y2,y3,fz⟩:=df Z.out;go_wp2_with fail;have bZ:=HB.out;refine ae (v:=.agg (b_ (iR 5 x3) (ah ⟨B4,0,ag⟩) 1 1)) ?_ rfl (QO.mk (V:=VX) (x:=iR 5 x3) ⟨(ah ⟨B4,0,ag⟩),1,1,rfl,?_⟩ qe (HR.out.low qe) (uY HS))
  · exact ayT
  · have KK:=K4.out;exact iQ KK qe
 | false=>
  replace HS:=pX HS HZ.out;go_wp2_with fail;refine ql HS HB (HP.out _ (HR.out.low qe)) ?_;clear HB HR;rintro x2 b2 u2 v2 w2-HL q2 ⟨p3,m3,c3,rfl,k3⟩ HR HB;replace Z:=bV Z w2;clear q2;have K3:=jv k3 w.heap.size;clear k3;dsimp only [b_];obtain⟨y0,y1,y2,y3,fz⟩:=df Z.out;go_wp2_with fail;have bZ:=HB.out;refine ae (v:=.agg (b_ (x2) (p3) m3 c3)) ?_ rfl (QO.mk (V:=VX) (x:=x2) ⟨(p3),m3,c3,rfl,?_⟩ qe (HR.out.low qe) HL.out)
  · exact ayT
  · have KK:=K3.out;exact iQ KK qe
theorem T9 (o:Int) (w:aj) (hR:Rp L g false t w) (hk:¬(hd t).k=0):ai af 243 #[.pointer (ah ⟨g,0,ag⟩),.int .i64 o] w (QO L g VX (xZ o) false t.tail w):=by
 have hg:=hR.blk;have HR:=U hR;have HB:Hid (Bt g w w):=U (bT.refl _ _);have HS:Hid (To (xZ o) false t.tail (xZ o) false t.tail):=yE;have Z:=jR w;have HK:=U hk;clear hR hk;go_enter func243,ntmps243;go_wp2_with fail;refine(yg true _ (HR.out.low qe)).mono ?_;rintro e w1 ⟨rfl,q1,R1⟩;have hkd:jb true false t=false:=by unfold jb;rw[decide_eq_false HK.out];rfl
 rw[og,hkd,if_neg bS] at R1;replace Z:=bV Z w1;replace HB:=dJ HB w1;replace HR:=U R1;clear q1 R1 hkd HK;go_wp2_with fail;refine qo HS HB (qX fK _ (HR.out.low qe) bS bS) ?_;clear HS HB HR;rintro x2 b2 u2 v2 w2-HS q2 rfl HR HB;replace Z:=bV Z w2;clear q2;go_wp2_with fail;refine qo HS HB (ab6 _ (HR.out.low qe)) ?_;clear HS HB HR;rintro x3 b3 u3 v3 w3-HS q3 rfl HR HB;replace Z:=bV Z w3;clear q3;have Y:=U (bX.new (w:=w3) (t:=26) (c:=#[.int .i64 o,.string x3,.int .i64 0,.slice ag 0 0]));have hz3:=Z.out.lt;go_wp2_with fail;refine qo HS HB (qX iG _ (HR.out.low qe) bS bS) ?_;clear HS HB HR;rintro x4 b4 u4 v4 w4-HS q4 rfl HR HB;replace Z:=bV Z w4;replace Y:=U (cO (w2:=w4) Y.out (by have hgB:¬w3.heap.size=g:=bU;exact qe));clear q4;obtain⟨l0,l1,l2,l3,-⟩:=df Y.out;obtain⟨y0,y1,y2,y3,fz⟩:=df Z.out;go_wp2_with fail;have bZ:=HB.out;refine ae (v:=.agg (b_ (uQ o x3) (ag) 0 0)) ?_ rfl (QO.mk (V:=VX) (x:=uQ o x3) ⟨(ag),0,0,rfl,?_⟩ qe (HR.out.low qe) (uY HS))
 · exact ayT
 · exact Ex.bW.zero
end
end Ps
namespace Ps
open Ps.P (rt bd exp len)
open Go.RowKit
open Lx (Tk)
open Ex (Ex bW qN FC)
open Md (bX)
theorem alR {d:Nat} {e:Ex} (h:¬d=4∨¬e.o=5):neg d e=e:=by
 unfold neg
 split
 · rcases h with h|h
   · exact absurd rfl h
   · exact absurd rfl h
 · rfl
theorem alS {s:ByteArray} {m:Int} {y:Ex} (h:¬y.o=1):neg 4 (.mk 5 s m [y])=.mk 5 s m [y]:=by
 unfold neg
 split
 · rename_i h1;injection h1 with _ _ _ h1;injection h1 with h1;rw[h1] at h;exact absurd rfl h
 · rfl
theorem alT {s:ByteArray} {m:Int} {y:Ex} (h:y.o=1):neg 4 (.mk 5 s m [y])=fo 1 (-y.n):=by
 obtain⟨o,s',n',l'⟩:=y;have h:o=1:=h;subst h;rfl
section
variable {L:Lk} {g:Nat} {t:List Tk} {n:Nat}
theorem ayU {p:Prop} (h:p:=by
 exact sJ
 ):p:=h
theorem ay8 {p:Prop} (h:p:=by
 obtain⟨l0,l1,l2,l3,-⟩:=df Y.out;obtain⟨y0,y1,y2,y3,fz⟩:=df Z.out;go_wp2_with fail;have bZ:=HB.out;refine ae (v:=.agg (b_ (x2) (p2) m2 c2)) ?_ rfl (PO.ok (by rw[HG.out.2 _ _ (dD HS),vF.out,alR WR.out]) qe ⟨(p2),m2,c2,rfl,?_⟩ (HR.out.low qe))
 · exact ayU
 · have KK:=jC.out;exact iQ KK qe
 ):p:=h
theorem aka (hX:XC L g n) (hQ:∀u x v,Gd u->run (fE n) u=.ok x v->x.o=5->∃s m y,x=.mk 5 s m [y]/\-1000000000000<=y.n/\y.n<=1000000000000) (w:aj) (hR:Rd L g t w) (hn:t.length<=n):ai af 272 #[.pointer (ah ⟨g,0,ag⟩)] w (PO L g VX (run (wH (fE n)) t) w):=by
 have HX:=U hX.xe;have HD:Hid (∀u,run (exp fK) t=.ok () u->u.length<n/\u.length+1=t.length):=U fun u h=>by
  have h1:=((Dn.exp bS:Dn 1 (exp fK)).out hR.gd h).2;have h2:=hR.gd.ne
  cases hi:is fK t with
  | true=>rw[uJ hi] at h;cases h;have:=List.length_tail (l:=t);omega
  | false=>rw[BH hi] at h;cases h
 have HQ:=U hQ;have Bl:=U hR.len;have HFW:=U hR.few;have h1:=hR.c1;obtain⟨rr,hrr⟩:∃rr,run (wH (fE n)) t=rr:=⟨_,rfl⟩
 rw[hrr];unfold wH at hrr;obtain⟨r,hr⟩:∃r,run (bd (exp fK) fun _=>bd (fE n) fun e=>bd (exp iG) fun _=>rt e) t=r:=⟨_,rfl⟩
 have HG:Hid ((∀u,r=.no u->rr=.no u)/\∀x u,r=.ok x u->rr=.ok (neg (t.length-u.length) x) u):=U ⟨fun u h=>hrr.symm.trans (JA (hr.trans h)),fun x u h=>hrr.symm.trans (Gg (hr.trans h))⟩;have HS:=U hr;have hg:=hR.blk;have HR:=U hR;have HB:Hid (Bt g w w):=U (bT.refl _ _);obtain⟨j,hj⟩:∃j,L.at t=j:=⟨_,rfl⟩
 have HJ:=U hj;rw[hj] at h1;clear hX hQ hn hr hrr hR hj;have Z:=jR w;have h1':(w.alloc (.cells #[.int .i64 0,.string ⟨#[]⟩,.int .i64 0,.slice ag 0 0] 26)).cell? ⟨g,1,ag⟩=ah (.int .i64 (j:Int)):=by
  have hq:=HR.out.c1;rw[HJ.out] at hq;rw[World.cell?_of_block (w:=w) (a:=⟨g,1,ag⟩) (by show(w.heap.push _)[g]?=_;rw[Array.getElem?_push,if_neg bU])];exact hq
 clear h1;go_enter func272,ntmps272;go_wp2_with fail;clear h1';refine(gX _ _ (HR.out.low qe) bS).mono ?_;rintro e w1 h1;rcases h1.cases with⟨x1,u1,v1,r1,rfl,b1,V1,R1⟩|⟨u1,r1,rfl,b1⟩
 rotate_left 1
 · have bZ:=HB.out;go_wp2_with fail;exact⟨rfl,PO.no (HG.out.1 _ (fI HS r1)) qe⟩
 replace HS:=fB HS r1;replace Z:=bV Z w1;replace HB:=dJ HB w1;replace HR:=U R1;clear b1 R1;clear h1;have hu:=U (HD.out _ r1);clear r1 HD;obtain rfl:=V1;have hz1:=Z.out.lt;go_wp2_with fail;have G1:=U HR.out.gd;refine(HX.out _ _ (HR.out.low qe) hu.out.1).mono ?_;rintro e w2 h2;rcases h2.cases with⟨x2,u2,v2,r2,rfl,b2,V2,R2⟩|⟨u2,r2,rfl,b2⟩
 rotate_left 1
 · have bZ:=HB.out;go_wp2_with fail;exact⟨rfl,PO.no (HG.out.1 _ (fI HS r2)) qe⟩
 replace HS:=fB HS r2;replace Z:=bV Z w2;replace HB:=dJ HB w2;replace HR:=U R2;clear b2 R2;clear h2;obtain⟨p2,m2,c2,rfl,k2⟩:=V2;have jC:=jv k2 w.heap.size;clear k2;dsimp only [b_];have P6:Hid (x2.o=5->∃s m y,x2=.mk 5 s m [y]/\-1000000000000<=y.n/\y.n<=1000000000000):=U (HQ.out _ _ _ G1.out r2);have Y:=U (bX.new (w:=w2) (t:=26) (c:=b_ x2 p2 m2 c2));dsimp only [b_] at Y;have hz2:=Z.out.lt;have hle2:=U ((Dx n).out G1.out r2).2;have G2:=U HR.out.gd;clear r2 G1 HQ;go_wp2_with fail;refine(gX _ _ (HR.out.low qe) bS).mono ?_;rintro e w3 h3;rcases h3.cases with⟨x3,u3,v3,r3,rfl,b3,V3,R3⟩|⟨u3,r3,rfl,b3⟩
 rotate_left 1
 · have bZ:=HB.out;go_wp2_with fail;exact⟨rfl,PO.no (HG.out.1 _ (fI HS r3)) qe⟩
 replace HS:=fB HS r3;replace Z:=bV Z w3;replace Y:=bV Y w3;replace jC:=U (ja (w2:=w3) jC.out qe);replace HB:=dJ HB w3;replace HR:=U R3;clear b3 R3;clear h3;have hle3:=U ((Dn.exp bS:Dn 1 (exp iG)).out G2.out r3).2;clear r3;obtain rfl:=V3;have hz3:=Z.out.lt;have hy3:=Y.out.lt;have n1:=HR.out.c1;obtain⟨j3,SG⟩:∃j3,L.at u3=j3:=⟨_,rfl⟩
 rw[SG] at n1;obtain⟨d,hd⟩:∃d,t.length-u3.length=d:=⟨_,rfl⟩
 have hlen:=HR.out.len.1;have aat:=Bl.out.1;have ku:=HFW.out;have hJ:=HJ.out;rw[SG] at hlen;rw[hJ] at aat;have hle:u3.length<=t.length:=by have h1:=hle2.out;have h2:=hu.out;have h3:=hle3.out;omega
 have hw:IntKind.i64.wrap ((j3:Int)-(j:Int))=(d:Int):=by rw[IntKind.wrap_i64];omega
 have vF:=U hd;clear SG hd hlen aat ku hJ hle;by_cases h4:d=4
 · have b4:((d:Int)==4)=true:=by simp[h4]
   by_cases h5:x2.o=5
   · obtain⟨s5,m5,y,hxy,yl,yh⟩:=P6.out h5;subst hxy;subst h4;obtain⟨kl,km,k0|⟨b,o',rfl,hgb,hbl,hcc⟩⟩:=qN.1 jC.out
     · have kl:1=m2:=kl;omega
     have kl:1=m2:=kl;subst kl;obtain⟨q,jj,cc,hc4,hkk⟩:=hcc.out 0 cz;obtain⟨e0,e1,e2,e3⟩:=hc4;simp only[Nat.zero_mul,Nat.add_zero,List.getElem_cons_zero] at e0 e1 e2 e3;have b5:((5:Int)==5)=true:=rfl;obtain⟨l0,l1,l2,l3,-⟩:=df Y.out;simp only[Ex.o,Ex.s,Ex.n] at l0 l1 l2;by_cases h6:y.o=1
     · have b6:(y.o==1)=true:=by simp[h6]
       have hw2:wrap64 (-y.n) = -y.n:=by unfold wrap64;omega
       have H7:Hid (neg 4 (Ex.mk 5 s5 m5 [y])=fo 1 (-y.n)):=U (alT h6);clear h5 h6 e1 e3 hkk hcc;go_wp2_with fail;refine gi HR HB (FC (-y.n) _) ?_;clear HR HB;rintro w4 b4-HR HB;replace Z:=bV Z w4;clear b4;obtain⟨y0,y1,y2,y3,fz⟩:=df Z.out;go_wp2_with fail;have KC:Hid (bW (fun b=>w.heap.size<b) w4 (fo 1 (-y.n)) ag 0):=U Ex.bW.zero;have bZ:=HB.out;refine ae (v:=.agg (b_ (fo 1 (-y.n)) (ag) 0 0)) ?_ rfl (PO.ok (by rw[HG.out.2 _ _ (dD HS),vF.out,H7.out]) qe ⟨(ag),0,0,rfl,?_⟩ (HR.out.low qe))
       · exact ayU
       · exact aff
     · have b6:(y.o==1)=false:=by simp[h6]
       have H7:Hid (neg 4 (Ex.mk 5 s5 m5 [y])=Ex.mk 5 s5 m5 [y]):=U (alS h6);clear h5 h6 e1 e3 e2 hkk hcc;obtain⟨y0,y1,y2,y3,fz⟩:=df Z.out;go_wp2_with fail;have bZ:=HB.out;refine ae (v:=.agg (b_ (Ex.mk 5 s5 m5 [y]) (ah ⟨b,o',ag⟩) 1 c2)) ?_ rfl (PO.ok (by rw[HG.out.2 _ _ (dD HS),vF.out,H7.out]) qe ⟨(ah ⟨b,o',ag⟩),1,c2,rfl,?_⟩ (HR.out.low qe))
       · exact ayU
       · have KK:=jC.out;exact iQ KK qe
   · have b5:(x2.o==5)=false:=by simp[h5]
     have WR:Hid (¬d=4∨¬x2.o=5):=U (.inr h5);clear h4 h5;exact ay8
 · have b4:((d:Int)==4)=false:=by simp;omega
   have WR:Hid (¬d=4∨¬x2.o=5):=U (.inl h4);clear h4;exact ay8
end
end Ps
namespace Ps
open Go.RowKit
open Lx (Tk)
open Ex (Ex bW qN FC Re Mj)
theorem Ya {n:Int} (h:n=0∨n=1):Mj 2 n=fo 2 n:=by
 rcases h with rfl|rfl <;> rfl
section
variable {L:Lk} {g:Nat} {t:List Tk} {n:Nat}
theorem ayt {p:Prop} (h:p:=by
 exact sJ
 ):p:=h
theorem amY (hX:XC L g n) (hQ:∀u x v,Gd u->run (fE n) u=.ok x v->x.o=5->∃s m y,x=.mk 5 s m [y]/\-1000000000000<=y.n/\y.n<=1000000000000) (w:aj) (hR:Rd L g t w) (hn:t.length<=n):ai af 254 #[.pointer (ah ⟨g,0,ag⟩)] w (PO L g VX (run (wO (fE n)) t) w):=by
 have HX:=U hX;have HQ:=U hQ;have HN:=U hn;have Lj:Hid (t.tail.length<=n):=U (by rw[List.length_tail];omega);have fk:=zl (hd t).k (hd t).n (hd t).l (hd t).t;clear hX hQ hn;refine eD hR ?_;clear hR;intro r HS HR HB hg;have Z:=jR w;go_enter func254,ntmps254;go_wp2_with fail;refine gi HR HB (zP _ (HR.out.low qe)) ?_;clear HR HB;rintro w1 b1-HR HB;replace Z:=bV Z w1;clear b1;unfold tv;have hz1:=Z.out.lt;by_cases hk:(hd t).k=2
 · have e1:((hd t).k==2)=true:=by simp[hk]
   replace HS:=Uy HS hk;clear hk;go_wp2_with fail;clear fk e1;refine po HS HB (lI _ (HR.out.low qe)) ?_;clear HS HB HR;rintro x2 u2 v2 w2-HS b2 ⟨rfl,n0,n1⟩ HR HB;replace Z:=bV Z w2;clear b2;go_wp2_with fail;refine gi HR HB (FC x2 _) ?_;clear HR HB;rintro w4 b4-HR HB;replace Z:=bV Z w4;clear b4;obtain⟨y0,y1,y2,y3,fz⟩:=df Z.out;go_wp2_with fail;have KC:Hid (bW (fun b=>w.heap.size<b) w4 (fo 1 x2) ag 0):=U Ex.bW.zero;have bZ:=HB.out;refine ae (v:=.agg (b_ (fo 1 x2) (ag) 0 0)) ?_ rfl (PO.ok (dD HS) qe ⟨(ag),0,0,rfl,?_⟩ (HR.out.low qe))
   · exact ayt
   · exact aff
 have e1:((hd t).k==2)=false:=by simp[hk]
 replace HS:=Uz HS hk;clear hk;go_wp2_with fail;clear fk e1;refine gi HR HB (oM oI _ (HR.out.low qe)) ?_;clear HR HB;rintro w2 b2-HR HB;replace Z:=bV Z w2;clear b2
 cases i2:is oI t
 rotate_left 1
 · replace HS:=EH HS i2;clear i2;go_wp2_with fail;refine po HS HB (Ol _ (HR.out.low qe)) ?_;clear HS HB HR;rintro x3 u3 v3 w3-HS b3 ⟨rfl,n0⟩ HR HB;replace Z:=bV Z w3;clear b3;go_wp2_with fail;refine(Re 2 x3 _).mono ?_;rintro e w4 ⟨p4,m4,c4,rfl,hk4,hb4⟩;rw[Ya n0] at hk4 ⊢;obtain rfl:0=m4:=(qN.1 hk4).1;have b4:Bt g _ w4:=bT.of hb4;have R4:Rd L g u3 w4:=HR.out.low (oJ hb4);replace Z:=bV Z w4;replace HB:=dJ HB w4;replace HR:=U R4;clear b4 R4;clear hb4 hk4;obtain⟨y0,y1,y2,y3,fz⟩:=df Z.out;go_wp2_with fail;have KC:Hid (bW (fun b=>w.heap.size<b) w4 (fo 2 x3) p4 0):=U Ex.bW.zero;have bZ:=HB.out;refine ae (v:=.agg (b_ (fo 2 x3) (p4) 0 c4)) ?_ rfl (PO.ok (dD HS) qe ⟨(p4),0,c4,rfl,?_⟩ (HR.out.low qe))
   · exact ayt
   · exact aff
 replace HS:=EG HS i2;clear i2;go_wp2_with fail;refine gi HR HB (oM qM _ (HR.out.low qe)) ?_;clear HR HB;rintro w3 b3-HR HB;replace Z:=bV Z w3;clear b3
 cases i3:is qM t
 rotate_left 1
 · replace HS:=EH HS i3;clear i3;go_wp2_with fail;refine po HS HB (Ol _ (HR.out.low qe)) ?_;clear HS HB HR;rintro x4 u4 v4 w4-HS b4 ⟨rfl,n0⟩ HR HB;replace Z:=bV Z w4;clear b4;go_wp2_with fail;refine(Re 2 x4 _).mono ?_;rintro e w5 ⟨p5,m5,c5,rfl,hk5,hb5⟩;rw[Ya n0] at hk5 ⊢;obtain rfl:0=m5:=(qN.1 hk5).1;have b5:Bt g _ w5:=bT.of hb5;have R5:Rd L g u4 w5:=HR.out.low (oJ hb5);replace Z:=bV Z w5;replace HB:=dJ HB w5;replace HR:=U R5;clear b5 R5;clear hb5 hk5;obtain⟨y0,y1,y2,y3,fz⟩:=df Z.out;go_wp2_with fail;have KC:Hid (bW (fun b=>w.heap.size<b) w5 (fo 2 x4) p5 0):=U Ex.bW.zero;have bZ:=HB.out;refine ae (v:=.agg (b_ (fo 2 x4) (p5) 0 c5)) ?_ rfl (PO.ok (dD HS) qe ⟨(p5),0,c5,rfl,?_⟩ (HR.out.low qe))
   · exact ayt
   · exact aff
 replace HS:=EG HS i3;clear i3;go_wp2_with fail;refine ac HS HB (dH F9 _ (HR.out.low qe) bS) ?_ ?_
 · clear HS HB HR;rintro w4-HS b4 HR HB;replace Z:=bV Z w4;clear b4;obtain⟨y0,y1,y2,y3,fz⟩:=df Z.out;go_wp2_with fail;have KC:Hid (bW (fun b=>w.heap.size<b) w4 (nd0 4) ag 0):=U Ex.bW.zero;have bZ:=HB.out;refine ae (v:=.agg (b_ (nd0 4) (ag) 0 0)) ?_ rfl (PO.ok (dD HS) qe ⟨(ag),0,0,rfl,?_⟩ (HR.out.low qe))
   · exact ayt
   · exact aff
 clear HS HB HR;rintro w4-HS b4 HR HB;replace Z:=bV Z w4;clear b4;go_wp2_with fail;refine ac HS HB (dH Jh _ (HR.out.low qe) bS) ?_ ?_
 · clear HS HB HR;rintro w5-HS b5 HR HB;replace Z:=bV Z w5;clear b5;go_wp2_with fail;have SY:=Z.out.lt;refine pl HS HB (abL HX.out 7 _ (HR.out.low qe) Lj.out) ?_;clear HB HR;rintro x6 u6 v6 w6-HL6 b6 ⟨p6,m6,c6,rfl,k6⟩ HR HB;replace Z:=bV Z w6;clear b6;have KX6:=jv k6 w.heap.size;clear k6;dsimp only [b_];obtain⟨y0,y1,y2,y3,fz⟩:=df Z.out;go_wp2_with fail;have bZ:=HB.out;refine ae (v:=.agg (b_ (x6) (p6) m6 c6)) ?_ rfl (PO.ok HL6.out qe ⟨(p6),m6,c6,rfl,?_⟩ (HR.out.low qe))
   · exact ayt
   · have KK:=KX6.out;exact iQ KK qe
 clear HS HB HR;rintro w5-HS b5 HR HB;replace Z:=bV Z w5;clear b5;go_wp2_with fail;refine ac HS HB (dH Jn _ (HR.out.low qe) bS) ?_ ?_
 · clear HS HB HR;rintro w6-HS b6 HR HB;replace Z:=bV Z w6;clear b6;go_wp2_with fail;have S9:=Z.out.lt;refine pl HS HB (abL HX.out 8 _ (HR.out.low qe) Lj.out) ?_;clear HB HR;rintro x7 u7 v7 w7-HL7 b7 ⟨p7,m7,c7,rfl,k7⟩ HR HB;replace Z:=bV Z w7;clear b7;have KX7:=jv k7 w.heap.size;clear k7;dsimp only [b_];obtain⟨y0,y1,y2,y3,fz⟩:=df Z.out;go_wp2_with fail;have bZ:=HB.out;refine ae (v:=.agg (b_ (x7) (p7) m7 c7)) ?_ rfl (PO.ok HL7.out qe ⟨(p7),m7,c7,rfl,?_⟩ (HR.out.low qe))
   · exact ayt
   · have KK:=KX7.out;exact iQ KK qe
 clear HS HB HR;rintro w6-HS b6 HR HB;replace Z:=bV Z w6;clear b6;go_wp2_with fail;refine ac HS HB (dH Jk _ (HR.out.low qe) bS) ?_ ?_
 · clear HS HB HR;rintro w7-HS b7 HR HB;replace Z:=bV Z w7;clear b7;go_wp2_with fail;have S_:=Z.out.lt;refine pl HS HB (abM HX.out 20 _ (HR.out.low qe) Lj.out) ?_;clear HB HR;rintro x8 u8 v8 w8-HL8 b8 ⟨p8,m8,c8,rfl,k8⟩ HR HB;replace Z:=bV Z w8;clear b8;have KX8:=jv k8 w.heap.size;clear k8;dsimp only [b_];obtain⟨y0,y1,y2,y3,fz⟩:=df Z.out;go_wp2_with fail;have bZ:=HB.out;refine ae (v:=.agg (b_ (x8) (p8) m8 c8)) ?_ rfl (PO.ok HL8.out qe ⟨(p8),m8,c8,rfl,?_⟩ (HR.out.low qe))
   · exact ayt
   · have KK:=KX8.out;exact iQ KK qe
 clear HS HB HR;rintro w7-HS b7 HR HB;replace Z:=bV Z w7;clear b7;go_wp2_with fail;refine ac HS HB (dH Jj _ (HR.out.low qe) bS) ?_ ?_
 · clear HS HB HR;rintro w8-HS b8 HR HB;replace Z:=bV Z w8;clear b8;go_wp2_with fail;have Ta:=Z.out.lt;refine pl HS HB (abM HX.out 21 _ (HR.out.low qe) Lj.out) ?_;clear HB HR;rintro x9 u9 v9 w9-HL9 b9 ⟨p9,m9,c9,rfl,k9⟩ HR HB;replace Z:=bV Z w9;clear b9;have KX9:=jv k9 w.heap.size;clear k9;dsimp only [b_];obtain⟨y0,y1,y2,y3,fz⟩:=df Z.out;go_wp2_with fail;have bZ:=HB.out;refine ae (v:=.agg (b_ (x9) (p9) m9 c9)) ?_ rfl (PO.ok HL9.out qe ⟨(p9),m9,c9,rfl,?_⟩ (HR.out.low qe))
   · exact ayt
   · have KK:=KX9.out;exact iQ KK qe
 clear HS HB HR;rintro w8-HS b8 HR HB;replace Z:=bV Z w8;clear b8;go_wp2_with fail;refine ac HS HB (dH Ji _ (HR.out.low qe) bS) ?_ ?_
 · clear HS HB HR;rintro w9-HS b9 HR HB;replace Z:=bV Z w9;clear b9;go_wp2_with fail;have SS:=Z.out.lt;refine pl HS HB (TL 22 _ (HR.out.low qe)) ?_;clear HB HR;rintro Ku jy v10 gG-afG b10 ⟨pM,m10,c10,rfl,k10⟩ HR HB;replace Z:=bV Z gG;clear b10;have afM:=jv k10 w.heap.size;clear k10;dsimp only [b_];obtain⟨y0,y1,y2,y3,fz⟩:=df Z.out;go_wp2_with fail;have bZ:=HB.out;refine ae (v:=.agg (b_ (Ku) (pM) m10 c10)) ?_ rfl (PO.ok afG.out qe ⟨(pM),m10,c10,rfl,?_⟩ (HR.out.low qe))
   · exact ayt
   · have KK:=afM.out;exact iQ KK qe
 clear HS HB HR;rintro w9-HS b9 HR HB;replace Z:=bV Z w9;clear b9;go_wp2_with fail;refine ac HS HB (dH Jm _ (HR.out.low qe) bS) ?_ ?_
 · clear HS HB HR;rintro gG-HS b10 HR HB;replace Z:=bV Z gG;clear b10;go_wp2_with fail;have SV:=Z.out.lt;refine pl HS HB (TL 23 _ (HR.out.low qe)) ?_;clear HB HR;rintro x11 kC v11 kM-afH b11 ⟨Gq,m11,c11,rfl,k11⟩ HR HB;replace Z:=bV Z kM;clear b11;have afN:=jv k11 w.heap.size;clear k11;dsimp only [b_];obtain⟨y0,y1,y2,y3,fz⟩:=df Z.out;go_wp2_with fail;have bZ:=HB.out;refine ae (v:=.agg (b_ (x11) (Gq) m11 c11)) ?_ rfl (PO.ok afH.out qe ⟨(Gq),m11,c11,rfl,?_⟩ (HR.out.low qe))
   · exact ayt
   · have KK:=afN.out;exact iQ KK qe
 clear HS HB HR;rintro gG-HS b10 HR HB;replace Z:=bV Z gG;clear b10;go_wp2_with fail;refine ac HS HB (dH Jp _ (HR.out.low qe) bS) ?_ ?_
 · clear HS HB HR;rintro kM-HS b11 HR HB;replace Z:=bV Z kM;clear b11;go_wp2_with fail;have SX:=Z.out.lt;refine pl HS HB (TL 24 _ (HR.out.low qe)) ?_;clear HB HR;rintro x12 l_ v12 wW-afI b12 ⟨JQ,m12,c12,rfl,k12⟩ HR HB;replace Z:=bV Z wW;clear b12;have afO:=jv k12 w.heap.size;clear k12;dsimp only [b_];obtain⟨y0,y1,y2,y3,fz⟩:=df Z.out;go_wp2_with fail;have bZ:=HB.out;refine ae (v:=.agg (b_ (x12) (JQ) m12 c12)) ?_ rfl (PO.ok afI.out qe ⟨(JQ),m12,c12,rfl,?_⟩ (HR.out.low qe))
   · exact ayt
   · have KK:=afO.out;exact iQ KK qe
 clear HS HB HR;rintro kM-HS b11 HR HB;replace Z:=bV Z kM;clear b11;go_wp2_with fail;refine gi HR HB (oM fK _ (HR.out.low qe)) ?_;clear HR HB;rintro wW b12-HR HB;replace Z:=bV Z wW;clear b12
 cases i12:is fK t
 rotate_left 1
 · replace HS:=EH HS i12;clear i12;go_wp2_with fail;have aqp:=Z.out.lt;refine pl HS HB (aka HX.out HQ.out _ (HR.out.low qe) HN.out) ?_;clear HB HR;rintro Oz lK v13 GI-afJ b13 ⟨p13,m13,c13,rfl,k13⟩ HR HB;replace Z:=bV Z GI;clear b13;have afP:=jv k13 w.heap.size;clear k13;dsimp only [b_];obtain⟨y0,y1,y2,y3,fz⟩:=df Z.out;go_wp2_with fail;have bZ:=HB.out;refine ae (v:=.agg (b_ (Oz) (p13) m13 c13)) ?_ rfl (PO.ok afJ.out qe ⟨(p13),m13,c13,rfl,?_⟩ (HR.out.low qe))
   · exact ayt
   · have KK:=afP.out;exact iQ KK qe
 replace HS:=EG HS i12;clear i12;go_wp2_with fail;refine po HS HB (jK _ (HR.out.low qe)) ?_;clear HS HB HR;rintro Oz lK v13 GI-HS b13 rfl HR HB;replace Z:=bV Z GI;clear b13;obtain⟨y0,y1,y2,y3,fz⟩:=df Z.out;go_wp2_with fail;have KC:Hid (bW (fun b=>w.heap.size<b) GI (uQ 3 Oz) ag 0):=U Ex.bW.zero;have bZ:=HB.out;refine ae (v:=.agg (b_ (uQ 3 Oz) (ag) 0 0)) ?_ rfl (PO.ok (dD HS) qe ⟨(ag),0,0,rfl,?_⟩ (HR.out.low qe))
 · exact ayt
 · exact aff
theorem ajy (hX:XC L g n) (hQ:∀u x v,Gd u->run (fE n) u=.ok x v->x.o=5->∃s m y,x=.mk 5 s m [y]/\-1000000000000<=y.n/\y.n<=1000000000000) (w:aj) (hR:Rd L g t w) (hn:t.length<=n):ai af 238 #[.pointer (ah ⟨g,0,ag⟩)] w (PO L g VX (run (rJ (fE n) (fF n)) t) w):=by
 have HX:=U hX;have HQ:=U hQ;have HN:=U hn;have HD:Hid (is eH t=true->t.tail.length<n):=U fun h=>by have h2:=hR.gd.ne;rw[List.length_tail];omega
 clear hX hQ hn;refine eD hR ?_;clear hR;intro r HS HR HB hg;have Z:=jR w;go_enter func238,ntmps238;go_wp2_with fail;refine ac HS HB (dH eH _ (HR.out.low qe) bS) ?_ ?_
 · clear HS HB HR;rintro w1 i1 HS b1 HR HB;have HT:=U (HD.out i1);replace Z:=bV Z w1;clear b1 i1;go_wp2_with fail;have hz1:=Z.out.lt;refine po HS HB (HX.out.xf _ _ (HR.out.low qe) HT.out) ?_;clear HS HB HR;rintro x2 u2 v2 w2-HS b2 ⟨p2,m2,c2,rfl,k2⟩ HR HB;replace Z:=bV Z w2;clear b2;have jC:=jv k2 w.heap.size;clear k2;dsimp only [b_];go_wp2_with fail;refine gi HR HB (xX _ _ _ _ _) ?_;clear HR HB;rintro w3 b3 hb3 HR HB;have hzz:=Z.out.lt;have KN:Hid (bW (fun b=>w.heap.size<b) w3 (iR 5 x2) (ah ⟨w2.heap.size,0,ag⟩) 1):=U (Ex.bW.map hb3.size (fun b hb hlt=>⟨hb,hb3.block b hlt⟩) _ (DY (c:=c2) 5 jC.out hzz));replace Z:=bV Z w3;clear b3 hb3;obtain⟨y0,y1,y2,y3,fz⟩:=df Z.out;go_wp2_with fail;have bZ:=HB.out;refine ae (v:=.agg (b_ (iR 5 x2) (ah ⟨w2.heap.size,0,ag⟩) 1 1)) ?_ rfl (PO.ok (dD HS) qe ⟨(ah ⟨w2.heap.size,0,ag⟩),1,1,rfl,?_⟩ (HR.out.low qe))
   · exact ayt
   · exact afm
 clear HS HB HR;rintro w1-HS b1 HR HB;replace Z:=bV Z w1;clear b1;go_wp2_with fail;have hz2:=Z.out.lt;refine pl HS HB (amY HX.out HQ.out _ (HR.out.low qe) HN.out) ?_;clear HB HR;rintro x2 u2 v2 w2-HL2 b2 ⟨p2,m2,c2,rfl,k2⟩ HR HB;replace Z:=bV Z w2;clear b2;have jC:=jv k2 w.heap.size;clear k2;dsimp only [b_];obtain⟨y0,y1,y2,y3,fz⟩:=df Z.out;go_wp2_with fail;have bZ:=HB.out;refine ae (v:=.agg (b_ (x2) (p2) m2 c2)) ?_ rfl (PO.ok HL2.out qe ⟨(p2),m2,c2,rfl,?_⟩ (HR.out.low qe))
 · exact ayt
 · have KK:=jC.out;exact iQ KK qe
end
end Ps
namespace Ps
open Go.RowKit
open Lx (Tk)
open Ex (Ex)
open Md (Rw At bX)
theorem Fp {w:aj} {b o:Nat} {x y:Value} (h0:w.cell? ⟨b,o,ag⟩=ah x) (h1:w.cell? ⟨b,o+1,ag⟩=ah y):At w b o #[x,y]:=by
 intro r v hv;have hr:r<2:=(Array.getElem?_eq_some_iff.1 hv).1
 match r,hr,hv with
 | 0,_,hv=>cases hv;rw[Nat.add_zero];exact h0
 | 1,_,hv=>cases hv;exact h1
theorem abO {g:Nat} {w:aj} {b:Nat} {s:ByteArray} {i:Int} (hg:g<b) (he:b=w.heap.size):Rw 2 Ai (fun b=>¬b=g) (w.alloc (.cells #[.string s,.int .i64 i] 126)) [(s,i)] (ah ⟨b,0,ag⟩) 1:=by
 subst he;have hb:bX (w.alloc (.cells #[.string s,.int .i64 i] 126)) w.heap.size 126 _:=bX.new;refine⟨rfl,by omega,.inr ⟨w.heap.size,0,rfl,by omega,by simp,U fun k hk=>?_⟩⟩
 match k,hk with
 | 0,_=>exact⟨_,rfl,Fp (hb.get rfl) (hb.get rfl),rfl⟩
theorem amr {g:Nat} {w:aj} {b:Nat} {s s2:ByteArray} {i i2:Int} (hg:g<b) (he:b=w.heap.size):Rw 2 Ai (fun b=>¬b=g) (w.alloc (.cells #[.string s,.int .i64 i,.string s2,.int .i64 i2] 126)) [(s,i),(s2,i2)] (ah ⟨b,0,ag⟩) 2:=by
 subst he;have hb:bX (w.alloc (.cells #[.string s,.int .i64 i,.string s2,.int .i64 i2] 126)) w.heap.size 126 _:=bX.new;refine⟨rfl,by omega,.inr ⟨w.heap.size,0,rfl,by omega,by simp,U fun k hk=>?_⟩⟩
 match k,hk with
 | 0,_=>exact⟨_,rfl,Fp (hb.get rfl) (hb.get rfl),rfl⟩
 | 1,_=>exact⟨_,rfl,Fp (hb.get rfl) (hb.get rfl),rfl⟩
theorem ams {g:Nat} {w:aj} {b:Nat} {s s2 s3:ByteArray} {i i2 i3:Int} (hg:g<b) (he:b=w.heap.size):Rw 2 Ai (fun b=>¬b=g) (w.alloc (.cells #[.string s,.int .i64 i,.string s2,.int .i64 i2,.string s3,.int .i64 i3] 126)) [(s,i),(s2,i2),(s3,i3)] (ah ⟨b,0,ag⟩) 3:=by
 subst he;have hb:bX (w.alloc (.cells #[.string s,.int .i64 i,.string s2,.int .i64 i2,.string s3,.int .i64 i3] 126)) w.heap.size 126 _:=bX.new;refine⟨rfl,by omega,.inr ⟨w.heap.size,0,rfl,by omega,by simp,U fun k hk=>?_⟩⟩
 match k,hk with
 | 0,_=>exact⟨_,rfl,Fp (hb.get rfl) (hb.get rfl),rfl⟩
 | 1,_=>exact⟨_,rfl,Fp (hb.get rfl) (hb.get rfl),rfl⟩
 | 2,_=>exact⟨_,rfl,Fp (hb.get rfl) (hb.get rfl),rfl⟩
section
variable {L:Lk} {g:Nat} {t:List Tk} {m:P Ex}
theorem ayM {p:Prop} (h:p:=by
 clear HB HR;rintro x1 u1 v1 w1-HL1 b1 ⟨p1,m1,c1,rfl,k1⟩ HR HB;replace Z:=bV Z w1;clear b1;have eB:=jv k1 w.heap.size;clear k1;dsimp only [b_];obtain⟨y0,y1,y2,y3,fz⟩:=df Z.out;go_wp2_with fail;have bZ:=HB.out;refine ae (v:=.agg (b_ (x1) (p1) m1 c1)) ?_ rfl (PO.ok HL1.out qe ⟨(p1),m1,c1,rfl,?_⟩ (HR.out.low qe))
 · exact sJ
 · have KK:=eB.out;exact iQ KK qe
 ):p:=h
theorem amZ (hm:Dn 1 m) (w:aj) (hR:Rd L g t w) (hC:∀W u,Rd L g u W->u.length<=t.length->ai af 238 #[.pointer (ah ⟨g,0,ag⟩)] W (PO L g VX (run m u) W)):ai af 230 #[.pointer (ah ⟨g,0,ag⟩)] w (PO L g VX (run (JS m) t) w):=by
 have HC:=U hC;have HM:=U hm;clear hC hm;refine eD hR ?_;clear hR;intro r HS HR HB hg;have Z:=jR w;go_enter func230,ntmps230;go_wp2_with fail;have hz1:=Z.out.lt;refine pl HS HB (Mf 238 m [(kE,11),(kP,12),(kZ,13)] _ 3 3 _ (HR.out.low qe) HC.out (fun _ _=>rfl) (ams bU cz) bS HM.out) ?_;exact ayM
theorem apJ (hm:Dn 1 m) (w:aj) (hR:Rd L g t w) (hC:∀W u,Rd L g u W->u.length<=t.length->ai af 238 #[.pointer (ah ⟨g,0,ag⟩)] W (PO L g VX (run m u) W)):ai af 208 #[.pointer (ah ⟨g,0,ag⟩)] w (PO L g VX (run (sum m) t) w):=by
 have HC:Hid (∀W u,Rd L g u W->u.length<=t.length->ai af 230 #[.pointer (ah ⟨g,0,ag⟩)] W (PO L g VX (run (JS m) u) W)):=U fun W u hW hu=>amZ hm W hW fun W' u' hW' hu'=>hC W' u' hW' (Nat.le_trans hu' hu);have HM:=U (Ry hm);clear hC hm;refine eD hR ?_;clear hR;intro r HS HR HB hg;have Z:=jR w;go_enter func208,ntmps208;go_wp2_with fail;have hz1:=Z.out.lt;refine pl HS HB (Mf 230 (JS m) [(nJ,9),(eH,10)] _ 2 2 _ (HR.out.low qe) HC.out (fun _ _=>rfl) (amr bU cz) bS HM.out) ?_;exact ayM
theorem aii (hm:Dn 1 m) (w:aj) (hR:Rd L g t w) (hC:∀W u,Rd L g u W->u.length<=t.length->ai af 119 #[.pointer (ah ⟨g,0,ag⟩)] W (PO L g VX (run m u) W)):ai af 66 #[.pointer (ah ⟨g,0,ag⟩)] w (PO L g VX (run (Iz m) t) w):=by
 have HC:=U hC;have HM:=U hm;clear hC hm;refine eD hR ?_;clear hR;intro r HS HR HB hg;have Z:=jR w;go_enter func66,ntmps66;go_wp2_with fail;have hz1:=Z.out.lt;refine pl HS HB (Mf 119 m [(rR,18)] _ 1 1 _ (HR.out.low qe) HC.out (fun _ _=>rfl) (abO bU cz) bS HM.out) ?_;exact ayM
theorem ajt (hm:Dn 1 m) (w:aj) (hR:Rd L g t w) (hC:∀W u,Rd L g u W->u.length<=t.length->ai af 119 #[.pointer (ah ⟨g,0,ag⟩)] W (PO L g VX (run m u) W)):ai af 30 #[.pointer (ah ⟨g,0,ag⟩)] w (PO L g VX (run (FM m) t) w):=by
 have HC:Hid (∀W u,Rd L g u W->u.length<=t.length->ai af 66 #[.pointer (ah ⟨g,0,ag⟩)] W (PO L g VX (run (Iz m) u) W)):=U fun W u hW hu=>aii hm W hW fun W' u' hW' hu'=>hC W' u' hW' (Nat.le_trans hu' hu);have HM:=U (Rm hm);clear hC hm;refine eD hR ?_;clear hR;intro r HS HR HB hg;have Z:=jR w;go_enter func30,ntmps30;go_wp2_with fail;have hz1:=Z.out.lt;refine pl HS HB (Mf 66 (Iz m) [(rT,19)] _ 1 1 _ (HR.out.low qe) HC.out (fun _ _=>rfl) (abO bU cz) bS HM.out) ?_;exact ayM
end
end Ps
end Go.Proofs.YthnillhnjhalmaaGreatDoor
