/-
  Parts of this proof: The contract of the laws' awake.
-/
import Derived.Test.YtkpekhpgdajabaaGreatDoorYTStmts
open Go.World renaming cell?->ae
open Option renaming none->V,some->af
open Go.RowKit renaming Below->ag
open Go renaming World->ah
open Go.Proofs.Tryz renaming prog->ai
open Go.RowKit.Below renaming refl->aj
set_option linter.unusedVariables false
set_option maxHeartbeats 4000000
open Go.Lib (hid)
namespace Go.Proofs.YtkpekhpgdajabaaGreatDoor
namespace Ps
open Go.RowKit
open Lx (bs mt)
open Ex (Ex Gives In iJ rF bX)
open Sm (St dA pY cs pq zD)
open Md (Rw bU)
theorem KQ {s:ByteArray} {q:Ex×Int×Int} (h:o_ (bs s)=q) (w:ah) (hE:Nu.Env w) (hs:s.size<=1000000):Calls ai 7 #[.string s] w (EO q w):=by rw[← h];exact X7 s w bT hE
theorem ab0 {s:ByteArray} {q:List St×Int×Int} (h:Dm (bs s)=q) (w:ah) (hE:Nu.Env w) (hs:s.size<=1000000):Calls ai 12 #[.string s] w (SO q w):=by rw[← h];exact an1 s w bT hE
theorem aaz {s:ByteArray} {q:Md.dL×Int×Int} (h:Dl (bs s)=q) (w:ah) (hE:Nu.Env w) (hs:s.size<=1000000):Calls ai 11 #[.string s] w (MO q w):=by rw[← h];exact ala s w bT hE
abbrev TX:TypeId:=25
abbrev aw1 (w:ah):ah:=w.alloc (.cells #[.int .i64 1,.string ⟨#[]⟩,.int .i64 3,.slice V 0 0] 25)
abbrev JR (w:ah):ah:=(aw1 w).alloc (.cells #[.int .i64 3,.string ⟨#[120]⟩,.int .i64 0,.slice V 0 0] 25)
abbrev Gw (w:ah):ah:=(JR w).alloc (.cells #[.int .i64 1,.string ⟨#[]⟩,.int .i64 1,.slice V 0 0,.int .i64 1,.string ⟨#[]⟩,.int .i64 2,.slice V 0 0] 25)
abbrev OU (w:ah):ah:=(Gw w).alloc (.cells #[.int .i64 10,.string ⟨#[]⟩,.int .i64 0,.slice (af ⟨w.heap.size+1+1,0,V⟩) 2 2,.int .i64 3,.string ⟨#[120]⟩,.int .i64 0,.slice V 0 0] 25)
abbrev JS (w:ah):ah:=(OU w).alloc (.cells #[.int .i64 10,.string ⟨#[]⟩,.int .i64 0,.slice (af ⟨w.heap.size+1+1+1,0,V⟩) 2 2] 25)
def Qn:Ex:=.mk 10 mt 0 [.mk 10 mt 0 [fO 1 1,fO 1 2],rQ 3 ⟨#[120]⟩]
theorem IC {w W:ah} {t:TypeId} {c:Array Value} (h:ag (w.alloc (.cells c t)).heap.size (w.alloc (.cells c t)) W):ag w.heap.size w W:=rF (iJ (aj _ _)) h
theorem aeH {w W:ah} (hb:ag (JS w).heap.size (JS w) W):bU W w.heap.size TX #[.int .i64 1,.string ⟨#[]⟩,.int .i64 3,.slice V 0 0]/\bU W (w.heap.size+1+1+1+1) TX #[.int .i64 10,.string ⟨#[]⟩,.int .i64 0,.slice (af ⟨w.heap.size+1+1+1,0,V⟩) 2 2]/\In W Qn (af ⟨w.heap.size+1+1+1,0,V⟩) 2:=by
 have b4:=IC hb;have b3:=IC b4;have b2:=IC b3;have b1:=IC b2;have z2:(JR w).heap.size=w.heap.size+1+1:=by simp
 have z3:(Gw w).heap.size=w.heap.size+1+1+1:=by simp
 have z4:(OU w).heap.size=w.heap.size+1+1+1+1:=by simp
 have k3:bX (fun _=>True) (Gw w) (.mk 10 mt 0 [fO 1 1,fO 1 2]) (af ⟨(JR w).heap.size,0,V⟩) 2:=wS (w:=JR w) (x:=fO 1 1) (y:=fO 1 2) (p:=V) (q:=V) (m:=0) (n:=0) (c:=0) (d:=0) 10 Ex.bX.zero Ex.bX.zero trivial;rw[z2] at k3;have k4:bX (fun _=>True) (OU w) Qn (af ⟨(Gw w).heap.size,0,V⟩) 2:=wS (w:=Gw w) (x:=.mk 10 mt 0 [fO 1 1,fO 1 2]) (y:=rQ 3 ⟨#[120]⟩) (q:=V) (n:=0) (c:=2) (d:=0) 10 k3 Ex.bX.zero trivial;rw[z3] at k4;refine⟨bU.new.on b1,?_,?_⟩
 · rw[← z4];exact bU.new.on hb
 · exact(H_ k4 (bS.of b4)).all
abbrev OT (u:ah):ah:=u.alloc (.cells #[.int .i64 1,.string ⟨#[]⟩,.int .i64 3,.slice V 0 0] 25)
abbrev Gv (u:ah) (n:Nat):ah:=(OT u).alloc (.cells #[.int .i64 5,.string ⟨#[]⟩,.int .i64 0,.slice (af ⟨n,0,V⟩) 1 1] 25)
def KI:Ex:=.mk 5 mt 0 [fO 1 3]
theorem aeI {u W:ah} {n:Nat} (hn:u.heap.size=n) (hb:ag (Gv u n).heap.size (Gv u n) W):bU W (n+1) TX #[.int .i64 5,.string ⟨#[]⟩,.int .i64 0,.slice (af ⟨n,0,V⟩) 1 1]/\In W KI (af ⟨n,0,V⟩) 1:=by
 have b1:=IC hb;have z1:(OT u).heap.size=n+1:=by simp[hn]
 have k1:bX (fun _=>True) (OT u) KI (af ⟨u.heap.size,0,V⟩) 1:=H9 (w:=u) (x:=fO 1 3) (p:=V) (m:=0) (c:=0) 5 Ex.bX.zero trivial;rw[hn] at k1;refine⟨?_,(H_ k1 (bS.of b1)).all⟩;rw[← z1];exact bU.new.on hb
theorem abf {e y:Ex} {b:Bool} (h:Ex.same e y=b) {p:Option Addr} {m c:Nat} {p2:Option Addr} {m2 c2:Nat} {w:ah} (hx:In w e p m) (hy:In w y p2 m2):Calls ai 9 #[.agg #[.int .i64 e.o,.string e.s,.int .i64 e.n,.slice p m c],.agg #[.int .i64 y.o,.string y.s,.int .i64 y.n,.slice p2 m2 c2]] w (Gives (.bool b) w):=by
 rw[← h];exact Ex.Fs e y p m c p2 m2 c2 w hx hy
theorem Sl {e y:Ex} {b:Bool} (h:Ex.same e y=b) {o n:Int} {s:ByteArray} (h1:y.o=o) (h2:y.s=s) (h3:y.n=n) {p:Option Addr} {m c:Nat} {p2:Option Addr} {m2 c2:Nat} {w:ah} (hx:In w e p m) (hy:In w y p2 m2):Calls ai 9 #[.agg #[.int .i64 e.o,.string e.s,.int .i64 e.n,.slice p m c],.agg #[.int .i64 o,.string s,.int .i64 n,.slice p2 m2 c2]] w (Gives (.bool b) w):=by
 subst h1 h2 h3;exact abf h hx hy
theorem amx {a b:List St} {v:Bool} (h:Sm.kr a b=v) {p:Option Addr} {m c:Nat} {p2:Option Addr} {m2 c2:Nat} {w:ah} (ha:pY w a p m) (hb:pY w b p2 m2):Calls ai 13 #[.slice p m c,.slice p2 m2 c2] w (Gives (.bool v) w):=by
 rw[← h];exact Sm.amy a b p m c p2 m2 c2 w ha hb
def Qo:St:=.mk 6 ⟨#[114]⟩ mt (fO 1 2) (fO 1 1) [] zD true [] []
theorem ajZ (w:ah):pY (w.alloc (.cells (cs Qo P0) 62)) KJ (af ⟨w.heap.size,0,V⟩) 1:=by
 have o1:bZ 62 21 kM (fun _=>True) (w.alloc (.cells (cs Qo P0) 62)) (.slice (af ⟨w.heap.size,0,V⟩) 1 1) [Qo]:=bZ.one ⟨P0,rfl,pq.2 ⟨⟨Ex.bX.zero,Ex.bX.zero,Ex.bX.zero,lV,lV⟩,Sm.dA.nil,Sm.dA.nil⟩⟩ kM.map Du trivial;obtain⟨p,c,e,hrw⟩:=o1.rw kM.map Du bR;have e1:af (⟨w.heap.size,0,V⟩:Addr)=p:=by injection e
 rw[← e1] at hrw;exact(aaw hrw).all
theorem NQ {p:Prop} (h:p:=by have q1:=Gi.out;exact bl):p:=h
set_option maxRecDepth 100000 in
theorem aeG (w:ah) (hE:Nu.Env w):Calls ai 5 #[] w (Gives (.bool true) w):=by
 have HE:=hid hE;clear hE;go_enter Tryz.func5,Tryz.ntmps5;go_wp2_with fail;have F0:=hid (fun W (hb:ag (JS w).heap.size (JS w) W)=>aeH hb);refine(KQ alF _ (HE.out.below bl) bR).mono ?_;rintro e w1 ⟨hb1,p1,m1,c1,rfl,k1⟩;have K1:Hid (∀W,ag w1.heap.size w1 W->In W zx p1 m1):=hid fun W hW=>(k1.all).on hW;have A1:=Md.far (w:=w1) TX (cu zx p1 m1 c1);dsimp only [cu] at A1 ⊢;clear k1;go_wp2_with fail;refine(KQ alG _ (HE.out.below bl) bR).mono ?_;rintro e w2 ⟨hb2,p2,m2,c2,rfl,k2⟩;have K2:Hid (∀W,ag w2.heap.size w2 W->In W zy p2 m2):=hid fun W hW=>(k2.all).on hW;have A2:=Md.far (w:=w2) TX (cu zy p2 m2 c2);dsimp only [cu] at A2 ⊢;clear k2;go_wp2_with fail;refine(KQ rd_c _ (HE.out.below bl) bR).mono ?_;rintro e w3 ⟨hb3,p3,m3,c3,rfl,k3⟩;have K3:Hid (∀W,ag w3.heap.size w3 W->In W AP p3 m3):=hid fun W hW=>(k3.all).on hW;have A3:=Md.far (w:=w3) TX (cu AP p3 m3 c3);dsimp only [cu] at A3 ⊢;clear k3;go_wp2_with fail;refine(KQ alH _ (HE.out.below bl) bR).mono ?_;rintro e w4 ⟨hb4,p4,m4,c4,rfl,k4⟩;dsimp only [cu];clear k4;obtain⟨u,hu⟩:∃u,w4.alloc (.cells #[.int .i64 nX.o,.string nX.s,.int .i64 nX.n,.slice p4 m4 c4] 25)=u:=⟨_,rfl⟩
 have hbu:ag w4.heap.size w4 u:=by rw[← hu];exact bl
 have zu:u.heap.size=w4.heap.size+1:=by rw[← hu];simp
 have B0:=(F0.out u bl).1;have t0:ae u ⟨w.heap.size,0,V⟩=af (.int .i64 1):=B0.get rfl;have t1:ae u ⟨w.heap.size,1,V⟩=af (.string ⟨#[]⟩):=B0.get rfl;have t2:ae u ⟨w.heap.size,2,V⟩=af (.int .i64 3):=B0.get rfl;have t3:ae u ⟨w.heap.size,3,V⟩=af (.slice V 0 0):=B0.get rfl;clear B0;obtain⟨U,hU⟩:∃U,(u.alloc (.cells #[.int .i64 1,.string ⟨#[]⟩,.int .i64 3,.slice V 0 0] 25)).alloc (.cells #[.int .i64 5,.string ⟨#[]⟩,.int .i64 0,.slice (af ⟨w4.heap.size+1,0,V⟩) 1 1] 25)=U:=⟨_,rfl⟩
 have zU:U.heap.size=w4.heap.size+1+1+1:=by rw[← hU];simp[zu]
 have hbU:ag u.heap.size u U:=by rw[← hU];exact bl
 have M0:=hid (fun W (hb:ag U.heap.size U W)=>aeI (W:=W) zu (by show ag (Gv u (w4.heap.size+1)).heap.size (Gv u (w4.heap.size+1)) W;rw[show Gv u (w4.heap.size+1)=U from hU];exact hb));have M1:=hid (fun W (hb:ag U.heap.size U W)=>F0.out W bl);have M2:=hid (fun W (hb:ag U.heap.size U W)=>K1.out W bl);have M3:=hid (fun W (hb:ag U.heap.size U W)=>K2.out W bl);have M4:=hid (fun W (hb:ag U.heap.size U W)=>K3.out W bl);have N1:=hid (fun W (hb:ag U.heap.size U W)=>A1.out W bl);have N2:=hid (fun W (hb:ag U.heap.size U W)=>A2.out W bl);have N3:=hid (fun W (hb:ag U.heap.size U W)=>A3.out W bl);have HB:Hid (ag w.heap.size w U):=hid bl;have d0:=(M0.out U (aj _ _)).1;have d1:=(M1.out U (aj _ _)).2.1;have d2:=N1.out U (aj _ _);have r0:ae U ⟨w4.heap.size+1+1,0,V⟩=af (.int .i64 5):=d0.get rfl;have r1:ae U ⟨w4.heap.size+1+1,1,V⟩=af (.string ⟨#[]⟩):=d0.get rfl;have r2:ae U ⟨w4.heap.size+1+1,2,V⟩=af (.int .i64 0):=d0.get rfl;have r3:ae U ⟨w4.heap.size+1+1,3,V⟩=af (.slice (af ⟨w4.heap.size+1,0,V⟩) 1 1):=d0.get rfl;have s0:ae U ⟨w.heap.size+1+1+1+1,0,V⟩=af (.int .i64 10):=d1.get rfl;have s1:ae U ⟨w.heap.size+1+1+1+1,1,V⟩=af (.string ⟨#[]⟩):=d1.get rfl;have s2:ae U ⟨w.heap.size+1+1+1+1,2,V⟩=af (.int .i64 0):=d1.get rfl;have s3:ae U ⟨w.heap.size+1+1+1+1,3,V⟩=af (.slice (af ⟨w.heap.size+1+1+1,0,V⟩) 2 2):=d1.get rfl;have a0:ae U ⟨w1.heap.size,0,V⟩=af (.int .i64 zx.o):=d2.get rfl;have a1:ae U ⟨w1.heap.size,1,V⟩=af (.string zx.s):=d2.get rfl;have a2:ae U ⟨w1.heap.size,2,V⟩=af (.int .i64 zx.n):=d2.get rfl;have a3:ae U ⟨w1.heap.size,3,V⟩=af (.slice p1 m1 c1):=d2.get rfl;clear d0 d1 d2 F0 K1 K2 K3 A1 A2 A3 hb1 hb2 hb3 hb4 hbu hbU;go_wp2_with fail;clear r0 r1 r2 r3 s0 s1 s2 s3 a0 a1 a2 a3 t0 t1 t2 t3 hu;have J1:bX (fun _=>True) (U.alloc (.cells #[.int .i64 5,.string ⟨#[]⟩,.int .i64 0,.slice (af ⟨w4.heap.size+1,0,V⟩) 1 1,.int .i64 10,.string ⟨#[]⟩,.int .i64 0,.slice (af ⟨w.heap.size+1+1+1,0,V⟩) 2 2] 25)) zx (af ⟨U.heap.size,0,V⟩) 2:=wS (w:=U) (x:=KI) (y:=Qn) (c:=1) (d:=2) 16 ((M0.out U (aj _ _)).2.mono fun _ _ _=>trivial) ((M1.out U (aj _ _)).2.2.mono fun _ _ _=>trivial) trivial;rw[zU] at J1;refine(Sl (e:=zx) (y:=zx) (b:=true) (o:=16) (n:=0) (s:=⟨#[]⟩) dx rfl rfl rfl (M2.out _ bl) (J1.all)).mono ?_;rintro e w5 ⟨rfl,hb5⟩;have Q5:Hid (ag U.heap.size U w5):=hid bl;clear hb5 J1;have d0:=(M0.out w5 Q5.out).1;have d2:=N2.out w5 Q5.out;have r0:ae w5 ⟨w4.heap.size+1+1,0,V⟩=af (.int .i64 5):=d0.get rfl;have r1:ae w5 ⟨w4.heap.size+1+1,1,V⟩=af (.string ⟨#[]⟩):=d0.get rfl;have r2:ae w5 ⟨w4.heap.size+1+1,2,V⟩=af (.int .i64 0):=d0.get rfl;have r3:ae w5 ⟨w4.heap.size+1+1,3,V⟩=af (.slice (af ⟨w4.heap.size+1,0,V⟩) 1 1):=d0.get rfl;have a0:ae w5 ⟨w2.heap.size,0,V⟩=af (.int .i64 zy.o):=d2.get rfl;have a1:ae w5 ⟨w2.heap.size,1,V⟩=af (.string zy.s):=d2.get rfl;have a2:ae w5 ⟨w2.heap.size,2,V⟩=af (.int .i64 zy.n):=d2.get rfl;have a3:ae w5 ⟨w2.heap.size,3,V⟩=af (.slice p2 m2 c2):=d2.get rfl;clear d0 d2;go_wp2_with fail;clear r0 r1 r2 r3 a0 a1 a2 a3;have J2:bX (fun _=>True) (w5.alloc (.cells #[.int .i64 5,.string ⟨#[]⟩,.int .i64 0,.slice (af ⟨w4.heap.size+1,0,V⟩) 1 1] 25)) zy (af ⟨w5.heap.size,0,V⟩) 1:=H9 (w:=w5) (x:=KI) (c:=1) 7 ((M0.out w5 Q5.out).2.mono fun _ _ _=>trivial) trivial;refine(Sl (e:=zy) (y:=zy) (b:=true) (o:=7) (n:=0) (s:=⟨#[]⟩) dx rfl rfl rfl (M3.out _ (by have q:=Q5.out;exact bl)) (J2.all)).mono ?_;rintro e w6 ⟨rfl,hb6⟩;have Q6:Hid (ag U.heap.size U w6):=hid (by have q:=Q5.out;exact bl);clear hb6 J2;have d2:=N3.out w6 Q6.out;have a0:ae w6 ⟨w3.heap.size,0,V⟩=af (.int .i64 AP.o):=d2.get rfl;have a1:ae w6 ⟨w3.heap.size,1,V⟩=af (.string AP.s):=d2.get rfl;have a2:ae w6 ⟨w3.heap.size,2,V⟩=af (.int .i64 AP.n):=d2.get rfl;have a3:ae w6 ⟨w3.heap.size,3,V⟩=af (.slice p3 m3 c3):=d2.get rfl;clear d2;go_wp2_with fail;clear a0 a1 a2 a3;refine(Sl (e:=AP) (y:=AP) (b:=true) (o:=1) (n:=-3) (s:=⟨#[]⟩) dx rfl rfl rfl (M4.out _ Q6.out) (Ex.bX.all (G:=fun _=>True) Ex.bX.zero)).mono ?_;rintro e w7 ⟨rfl,Hg⟩;have Eb:Hid (ag w.heap.size w w7):=hid (by have q1:=HB.out;have q2:=Q6.out;exact bl);clear Hg M0 M1 M2 M3 M4 N1 N2 N3 Q5 Q6 HB;go_wp2_with fail;refine(aaz alI _ (HE.out.below Eb.out) bR).mono ?_;rintro e w8 ⟨qP,P,rfl,k8⟩;have SI:=k8.si;have hsm:P.xE=1:=SI.1.symm;obtain⟨q,o,hsp,-,hlt,hcc⟩:=Rw.rows SI (by rw[hsm];decide);obtain⟨cc,hc1,hc2,P',rfl,-⟩:=hcc.out 0 bR;have hnm:ae w8 ⟨q,o,V⟩=af (.string ⟨#[97]⟩):=by
  have h:=hc2.get (r:=0) rfl;have e0:o+0*13+0=o:=by omega
  rw[e0] at h;exact h
 have N8:=hid (fun W (hb:ag w8.heap.size w8 W)=>(World.cell?_of_block (w:=w8) (w':=W) (a:=⟨q,o,V⟩) (hb.block q hlt)).trans hnm);have A8:=Md.far (w:=w8) 40 (Md.dS X6 P);have Gi:Hid (ag w.heap.size w w8):=hid (by have q1:=Eb.out;exact bl);clear k8 SI hlt hcc hc1 hc2 hnm qP Eb;dsimp only [Md.dS] at A8 ⊢;rw[hsp,hsm] at A8;go_wp2_with fail;clear hsp hsm;refine(aaz alJ _ (HE.out.below NQ) bR).mono ?_;rintro e w9 ⟨Ct,P9,rfl,k9⟩;clear k9;dsimp only [Md.dS];go_wp2_with fail;refine(ab0 alK _ (HE.out.below NQ) bR).mono ?_;rintro e fT ⟨QT,o8,m10,c10,rfl,k10⟩;clear k10;go_wp2_with fail;refine(ab0 alL _ (HE.out.below NQ) bR).mono ?_;rintro e ku ⟨aiV,Ff,m11,c11,rfl,k11⟩;have d8:=A8.out ku bl;have z0:ae ku ⟨w8.heap.size,0,V⟩=af (.string ⟨#[109]⟩):=d8.get rfl;have z2:ae ku ⟨w8.heap.size,2,V⟩=af (.slice (af ⟨q,o,V⟩) 1 P.Bh):=d8.get rfl;have zn:=N8.out ku bl;have ad4:Hid (ag w.heap.size w ku):=hid NQ;have KS:=hid (fun W (hb:ag ku.heap.size ku W)=>(k11.all).on hb);clear d8 k11 N8 A8 Ct QT aiV Gi;go_wp2_with fail;have J3:=ajZ ku;refine(amx (a:=KJ) (b:=KJ) (v:=true) dx (KS.out _ bl) J3).mono ?_;rintro e vQ ⟨rfl,Zc⟩;have ad5:Hid (ag w.heap.size w vQ):=hid (by have q1:=ad4.out;exact rF (iJ q1) Zc);clear J3 KS Zc z0 z2 zn;go_wp2_with fail;go_ret;exact⟨rfl,ad5.out⟩
end Ps
end Go.Proofs.YtkpekhpgdajabaaGreatDoor
