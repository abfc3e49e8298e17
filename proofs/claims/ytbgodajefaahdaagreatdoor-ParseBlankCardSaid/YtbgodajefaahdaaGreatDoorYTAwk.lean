/-
  Parts of this proof: The contract of the laws' awake. The contract of the reference's SameSite.
-/
import Derived.Test.YtbgodajefaahdaaGreatDoorYTDcl
import Derived.Test.YtbgodajefaahdaaGreatDoorYPRSame2
import Derived.Deep.CutRange
open Go.World renaming cell?->ae
open Option renaming none->V,some->af
open Go renaming World->ag
open Go.RowKit renaming Below->ah
open Go.Proofs.Tryz renaming prog->ai
open Go.RowKit.Below renaming refl->aj
set_option linter.unusedVariables false
open Go.Lib (hid)
namespace Go.Proofs.YtbgodajefaahdaaGreatDoor
namespace Ps
open Go.RowKit
open Lx (bs mt)
open Ex (Ex Gives In ji tT bW)
open Sm (St dE oK cs qH zD)
open Md (Rw bT)
set_option maxHeartbeats 4000000
theorem Oj {s:ByteArray} {q:Ex×Int×Int} (h:qE (bs s)=q) (w:ag) (hE:Nu.Env w) (hs:s.size<=1000000):Calls ai 11 #[.string s] w (EO q w):=by rw[← h];exact al2 s w (by omega) hE
theorem Fs {s:ByteArray} {q:List St×Int×Int} (h:kZ (bs s)=q) (w:ag) (hE:Nu.Env w) (hs:s.size<=1000000):Calls ai 7 #[.string s] w (SO q w):=by rw[← h];exact arY s w (by omega) hE
theorem zy {s:ByteArray} {q:Md.dx×Int×Int} (h:kY (bs s)=q) (w:ag) (hE:Nu.Env w) (hs:s.size<=1000000):Calls ai 6 #[.string s] w (MO q w):=by rw[← h];exact aps s w (by omega) hE
abbrev TX:TypeId:=41
abbrev aw1 (w:ag):ag:=w.alloc (.cells #[.int .i64 1,.string ⟨#[]⟩,.int .i64 3,.slice V 0 0] 41)
abbrev MX (w:ag):ag:=(aw1 w).alloc (.cells #[.int .i64 3,.string ⟨#[120]⟩,.int .i64 0,.slice V 0 0] 41)
abbrev IZ (w:ag):ag:=(MX w).alloc (.cells #[.int .i64 1,.string ⟨#[]⟩,.int .i64 1,.slice V 0 0,.int .i64 1,.string ⟨#[]⟩,.int .i64 2,.slice V 0 0] 41)
abbrev Sd (w:ag):ag:=(IZ w).alloc (.cells #[.int .i64 10,.string ⟨#[]⟩,.int .i64 0,.slice (af ⟨w.heap.size+1+1,0,V⟩) 2 2,.int .i64 3,.string ⟨#[120]⟩,.int .i64 0,.slice V 0 0] 41)
abbrev MZ (w:ag):ag:=(Sd w).alloc (.cells #[.int .i64 10,.string ⟨#[]⟩,.int .i64 0,.slice (af ⟨w.heap.size+1+1+1,0,V⟩) 2 2] 41)
def Tx:Ex:=.mk 10 mt 0 [.mk 10 mt 0 [iO 1 1,iO 1 2],A9 3 ⟨#[120]⟩]
theorem Kw {w W:ag} {t:TypeId} {c:Array Value} (h:ah (w.alloc (.cells c t)).heap.size (w.alloc (.cells c t)) W):ah w.heap.size w W:=tT (ji (aj _ _)) h
theorem aiO {w W:ag} (hb:ah (MZ w).heap.size (MZ w) W):bT W w.heap.size TX #[.int .i64 1,.string ⟨#[]⟩,.int .i64 3,.slice V 0 0]/\bT W (w.heap.size+1+1+1+1) TX #[.int .i64 10,.string ⟨#[]⟩,.int .i64 0,.slice (af ⟨w.heap.size+1+1+1,0,V⟩) 2 2]/\In W Tx (af ⟨w.heap.size+1+1+1,0,V⟩) 2:=by
 have b4:=Kw hb;have b3:=Kw b4;have b2:=Kw b3;have b1:=Kw b2;have z2:(MX w).heap.size=w.heap.size+1+1:=by simp
 have z3:(IZ w).heap.size=w.heap.size+1+1+1:=by simp
 have z4:(Sd w).heap.size=w.heap.size+1+1+1+1:=by simp
 have k3:bW (fun _=>True) (IZ w) (.mk 10 mt 0 [iO 1 1,iO 1 2]) (af ⟨(MX w).heap.size,0,V⟩) 2:=yw (w:=MX w) (x:=iO 1 1) (y:=iO 1 2) (p:=V) (q:=V) (m:=0) (n:=0) (c:=0) (d:=0) 10 Ex.bW.zero Ex.bW.zero trivial;rw[z2] at k3;have k4:bW (fun _=>True) (Sd w) Tx (af ⟨(IZ w).heap.size,0,V⟩) 2:=yw (w:=IZ w) (x:=.mk 10 mt 0 [iO 1 1,iO 1 2]) (y:=A9 3 ⟨#[120]⟩) (q:=V) (n:=0) (c:=2) (d:=0) 10 k3 Ex.bW.zero trivial;rw[z3] at k4;refine⟨bT.new.on b1,?_,?_⟩
 · rw[← z4];exact bT.new.on hb
 · exact(J7 k4 (bR.of b4)).all
abbrev Sc (u:ag):ag:=u.alloc (.cells #[.int .i64 1,.string ⟨#[]⟩,.int .i64 3,.slice V 0 0] 41)
abbrev IY (u:ag) (n:Nat):ag:=(Sc u).alloc (.cells #[.int .i64 5,.string ⟨#[]⟩,.int .i64 0,.slice (af ⟨n,0,V⟩) 1 1] 41)
def Oe:Ex:=.mk 5 mt 0 [iO 1 3]
theorem aiP {u W:ag} {n:Nat} (hn:u.heap.size=n) (hb:ah (IY u n).heap.size (IY u n) W):bT W (n+1) TX #[.int .i64 5,.string ⟨#[]⟩,.int .i64 0,.slice (af ⟨n,0,V⟩) 1 1]/\In W Oe (af ⟨n,0,V⟩) 1:=by
 have b1:=Kw hb;have z1:(Sc u).heap.size=n+1:=by simp[hn]
 have k1:bW (fun _=>True) (Sc u) Oe (af ⟨u.heap.size,0,V⟩) 1:=JZ (w:=u) (x:=iO 1 3) (p:=V) (m:=0) (c:=0) 5 Ex.bW.zero trivial;rw[hn] at k1;refine⟨?_,(J7 k1 (bR.of b1)).all⟩;rw[← z1];exact bT.new.on hb
theorem aqp {e y:Ex} {b:Bool} (h:Ex.same e y=b) {p:Option Addr} {m c:Nat} {p2:Option Addr} {m2 c2:Nat} {w:ag} (hx:In w e p m) (hy:In w y p2 m2):Calls ai 12 #[.agg #[.int .i64 e.o,.string e.s,.int .i64 e.n,.slice p m c],.agg #[.int .i64 y.o,.string y.s,.int .i64 y.n,.slice p2 m2 c2]] w (Gives (.bool b) w):=by
 rw[← h];exact Ex.Fb e y p m c p2 m2 c2 w hx hy
theorem Vt {e y:Ex} {b:Bool} (h:Ex.same e y=b) {o n:Int} {s:ByteArray} (h1:y.o=o) (h2:y.s=s) (h3:y.n=n) {p:Option Addr} {m c:Nat} {p2:Option Addr} {m2 c2:Nat} {w:ag} (hx:In w e p m) (hy:In w y p2 m2):Calls ai 12 #[.agg #[.int .i64 e.o,.string e.s,.int .i64 e.n,.slice p m c],.agg #[.int .i64 o,.string s,.int .i64 n,.slice p2 m2 c2]] w (Gives (.bool b) w):=by
 subst h1 h2 h3;exact aqp h hx hy
theorem aeG {a b:List St} {v:Bool} (h:Sm.jN a b=v) {p:Option Addr} {m c:Nat} {p2:Option Addr} {m2 c2:Nat} {w:ag} (ha:oK w a p m) (hb:oK w b p2 m2):Calls ai 9 #[.slice p m c,.slice p2 m2 c2] w (Gives (.bool v) w):=by
 rw[← h];exact Sm.aeH a b p m c p2 m2 c2 w ha hb
def Ty:St:=.mk 6 ⟨#[114]⟩ mt (iO 1 2) (iO 1 1) [] zD true [] []
theorem an2 (w:ag):oK (w.alloc (.cells (cs Ty P0) 60)) Og (af ⟨w.heap.size,0,V⟩) 1:=by
 have o1:bZ 60 21 lX (fun _=>True) (w.alloc (.cells (cs Ty P0) 60)) (.slice (af ⟨w.heap.size,0,V⟩) 1 1) [Ty]:=bZ.one ⟨P0,rfl,qH.2 ⟨⟨Ex.bW.zero,Ex.bW.zero,Ex.bW.zero,nA,nA⟩,Sm.dE.nil,Sm.dE.nil⟩⟩ lX.map Fe trivial;obtain⟨p,c,e,hrw⟩:=o1.rw lX.map Fe (by decide);have e1:af (⟨w.heap.size,0,V⟩:Addr)=p:=by injection e
 rw[← e1] at hrw;exact(adU hrw).all
theorem Q3 {p:Prop} (h:p:=by have q1:=Iu.out;exact bl):p:=h
set_option maxRecDepth 100000 in
theorem Zg (w:ag) (hE:Nu.Env w):Calls ai 5 #[] w (Gives (.bool true) w):=by
 have HE:=hid hE;clear hE;go_enter Tryz.func5,Tryz.ntmps5;go_wp2_with fail;have F0:=hid (fun W (hb:ah (MZ w).heap.size (MZ w) W)=>aiO hb);refine(Oj apV _ (HE.out.below bl) (by decide)).mono ?_;rintro e w1 ⟨hb1,p1,m1,c1,rfl,k1⟩;have K1:Hid (∀W,ah w1.heap.size w1 W->In W Av p1 m1):=hid fun W hW=>(k1.all).on hW;have A1:=Md.far (w:=w1) TX (cu Av p1 m1 c1);dsimp only [cu] at A1 ⊢;clear k1;go_wp2_with fail;refine(Oj apW _ (HE.out.below bl) (by decide)).mono ?_;rintro e w2 ⟨hb2,p2,m2,c2,rfl,k2⟩;have K2:Hid (∀W,ah w2.heap.size w2 W->In W Aw p2 m2):=hid fun W hW=>(k2.all).on hW;have A2:=Md.far (w:=w2) TX (cu Aw p2 m2 c2);dsimp only [cu] at A2 ⊢;clear k2;go_wp2_with fail;refine(Oj rd_c _ (HE.out.below bl) (by decide)).mono ?_;rintro e w3 ⟨hb3,p3,m3,c3,rfl,k3⟩;have K3:Hid (∀W,ah w3.heap.size w3 W->In W Cn p3 m3):=hid fun W hW=>(k3.all).on hW;have A3:=Md.far (w:=w3) TX (cu Cn p3 m3 c3);dsimp only [cu] at A3 ⊢;clear k3;go_wp2_with fail;refine(Oj apX _ (HE.out.below bl) (by decide)).mono ?_;rintro e w4 ⟨hb4,p4,m4,c4,rfl,k4⟩;dsimp only [cu];clear k4;obtain⟨u,hu⟩:∃u,w4.alloc (.cells #[.int .i64 nX.o,.string nX.s,.int .i64 nX.n,.slice p4 m4 c4] 41)=u:=⟨_,rfl⟩
 have hbu:ah w4.heap.size w4 u:=by rw[← hu];exact bl
 have zu:u.heap.size=w4.heap.size+1:=by rw[← hu];simp
 have B0:=(F0.out u bl).1;have t0:ae u ⟨w.heap.size,0,V⟩=af (.int .i64 1):=B0.get rfl;have t1:ae u ⟨w.heap.size,1,V⟩=af (.string ⟨#[]⟩):=B0.get rfl;have t2:ae u ⟨w.heap.size,2,V⟩=af (.int .i64 3):=B0.get rfl;have t3:ae u ⟨w.heap.size,3,V⟩=af (.slice V 0 0):=B0.get rfl;clear B0;obtain⟨U,hU⟩:∃U,(u.alloc (.cells #[.int .i64 1,.string ⟨#[]⟩,.int .i64 3,.slice V 0 0] 41)).alloc (.cells #[.int .i64 5,.string ⟨#[]⟩,.int .i64 0,.slice (af ⟨w4.heap.size+1,0,V⟩) 1 1] 41)=U:=⟨_,rfl⟩
 have zU:U.heap.size=w4.heap.size+1+1+1:=by rw[← hU];simp[zu]
 have hbU:ah u.heap.size u U:=by rw[← hU];exact bl
 have M0:=hid (fun W (hb:ah U.heap.size U W)=>aiP (W:=W) zu (by show ah (IY u (w4.heap.size+1)).heap.size (IY u (w4.heap.size+1)) W;rw[show IY u (w4.heap.size+1)=U from hU];exact hb));have M1:=hid (fun W (hb:ah U.heap.size U W)=>F0.out W bl);have M2:=hid (fun W (hb:ah U.heap.size U W)=>K1.out W bl);have M3:=hid (fun W (hb:ah U.heap.size U W)=>K2.out W bl);have M4:=hid (fun W (hb:ah U.heap.size U W)=>K3.out W bl);have N1:=hid (fun W (hb:ah U.heap.size U W)=>A1.out W bl);have N2:=hid (fun W (hb:ah U.heap.size U W)=>A2.out W bl);have N3:=hid (fun W (hb:ah U.heap.size U W)=>A3.out W bl);have HB:Hid (ah w.heap.size w U):=hid bl;have d0:=(M0.out U (aj _ _)).1;have d1:=(M1.out U (aj _ _)).2.1;have d2:=N1.out U (aj _ _);have r0:ae U ⟨w4.heap.size+1+1,0,V⟩=af (.int .i64 5):=d0.get rfl;have r1:ae U ⟨w4.heap.size+1+1,1,V⟩=af (.string ⟨#[]⟩):=d0.get rfl;have r2:ae U ⟨w4.heap.size+1+1,2,V⟩=af (.int .i64 0):=d0.get rfl;have r3:ae U ⟨w4.heap.size+1+1,3,V⟩=af (.slice (af ⟨w4.heap.size+1,0,V⟩) 1 1):=d0.get rfl;have s0:ae U ⟨w.heap.size+1+1+1+1,0,V⟩=af (.int .i64 10):=d1.get rfl;have s1:ae U ⟨w.heap.size+1+1+1+1,1,V⟩=af (.string ⟨#[]⟩):=d1.get rfl;have s2:ae U ⟨w.heap.size+1+1+1+1,2,V⟩=af (.int .i64 0):=d1.get rfl;have s3:ae U ⟨w.heap.size+1+1+1+1,3,V⟩=af (.slice (af ⟨w.heap.size+1+1+1,0,V⟩) 2 2):=d1.get rfl;have a0:ae U ⟨w1.heap.size,0,V⟩=af (.int .i64 Av.o):=d2.get rfl;have a1:ae U ⟨w1.heap.size,1,V⟩=af (.string Av.s):=d2.get rfl;have a2:ae U ⟨w1.heap.size,2,V⟩=af (.int .i64 Av.n):=d2.get rfl;have a3:ae U ⟨w1.heap.size,3,V⟩=af (.slice p1 m1 c1):=d2.get rfl;clear d0 d1 d2 F0 K1 K2 K3 A1 A2 A3 hb1 hb2 hb3 hb4 hbu hbU;go_wp2_with fail;clear r0 r1 r2 r3 s0 s1 s2 s3 a0 a1 a2 a3 t0 t1 t2 t3 hu;have J1:bW (fun _=>True) (U.alloc (.cells #[.int .i64 5,.string ⟨#[]⟩,.int .i64 0,.slice (af ⟨w4.heap.size+1,0,V⟩) 1 1,.int .i64 10,.string ⟨#[]⟩,.int .i64 0,.slice (af ⟨w.heap.size+1+1+1,0,V⟩) 2 2] 41)) Av (af ⟨U.heap.size,0,V⟩) 2:=yw (w:=U) (x:=Oe) (y:=Tx) (c:=1) (d:=2) 16 ((M0.out U (aj _ _)).2.mono fun _ _ _=>trivial) ((M1.out U (aj _ _)).2.2.mono fun _ _ _=>trivial) trivial;rw[zU] at J1;refine(Vt (e:=Av) (y:=Av) (b:=true) (o:=16) (n:=0) (s:=⟨#[]⟩) (by kernel_rfl) rfl rfl rfl (M2.out _ bl) (J1.all)).mono ?_;rintro e w5 ⟨rfl,hb5⟩;have Q5:Hid (ah U.heap.size U w5):=hid bl;clear hb5 J1;have d0:=(M0.out w5 Q5.out).1;have d2:=N2.out w5 Q5.out;have r0:ae w5 ⟨w4.heap.size+1+1,0,V⟩=af (.int .i64 5):=d0.get rfl;have r1:ae w5 ⟨w4.heap.size+1+1,1,V⟩=af (.string ⟨#[]⟩):=d0.get rfl;have r2:ae w5 ⟨w4.heap.size+1+1,2,V⟩=af (.int .i64 0):=d0.get rfl;have r3:ae w5 ⟨w4.heap.size+1+1,3,V⟩=af (.slice (af ⟨w4.heap.size+1,0,V⟩) 1 1):=d0.get rfl;have a0:ae w5 ⟨w2.heap.size,0,V⟩=af (.int .i64 Aw.o):=d2.get rfl;have a1:ae w5 ⟨w2.heap.size,1,V⟩=af (.string Aw.s):=d2.get rfl;have a2:ae w5 ⟨w2.heap.size,2,V⟩=af (.int .i64 Aw.n):=d2.get rfl;have a3:ae w5 ⟨w2.heap.size,3,V⟩=af (.slice p2 m2 c2):=d2.get rfl;clear d0 d2;go_wp2_with fail;clear r0 r1 r2 r3 a0 a1 a2 a3;have J2:bW (fun _=>True) (w5.alloc (.cells #[.int .i64 5,.string ⟨#[]⟩,.int .i64 0,.slice (af ⟨w4.heap.size+1,0,V⟩) 1 1] 41)) Aw (af ⟨w5.heap.size,0,V⟩) 1:=JZ (w:=w5) (x:=Oe) (c:=1) 7 ((M0.out w5 Q5.out).2.mono fun _ _ _=>trivial) trivial;refine(Vt (e:=Aw) (y:=Aw) (b:=true) (o:=7) (n:=0) (s:=⟨#[]⟩) (by kernel_rfl) rfl rfl rfl (M3.out _ (by have q:=Q5.out;exact bl)) (J2.all)).mono ?_;rintro e w6 ⟨rfl,hb6⟩;have Q6:Hid (ah U.heap.size U w6):=hid (by have q:=Q5.out;exact bl);clear hb6 J2;have d2:=N3.out w6 Q6.out;have a0:ae w6 ⟨w3.heap.size,0,V⟩=af (.int .i64 Cn.o):=d2.get rfl;have a1:ae w6 ⟨w3.heap.size,1,V⟩=af (.string Cn.s):=d2.get rfl;have a2:ae w6 ⟨w3.heap.size,2,V⟩=af (.int .i64 Cn.n):=d2.get rfl;have a3:ae w6 ⟨w3.heap.size,3,V⟩=af (.slice p3 m3 c3):=d2.get rfl;clear d2;go_wp2_with fail;clear a0 a1 a2 a3;refine(Vt (e:=Cn) (y:=Cn) (b:=true) (o:=1) (n:=-3) (s:=⟨#[]⟩) (by kernel_rfl) rfl rfl rfl (M4.out _ Q6.out) (Ex.bW.all (G:=fun _=>True) Ex.bW.zero)).mono ?_;rintro e w7 ⟨rfl,JO⟩;have FD:Hid (ah w.heap.size w w7):=hid (by have q1:=HB.out;have q2:=Q6.out;exact bl);clear JO M0 M1 M2 M3 M4 N1 N2 N3 Q5 Q6 HB;go_wp2_with fail;refine(zy apY _ (HE.out.below FD.out) (by decide)).mono ?_;rintro e w8 ⟨sw,P,rfl,k8⟩;have SI:=k8.si;have hsm:P.ig=1:=SI.1.symm;obtain⟨q,o,hsp,-,hlt,hcc⟩:=Rw.rows SI (by rw[hsm];decide);obtain⟨cc,hc1,hc2,P',rfl,-⟩:=hcc.out 0 (by decide);have hnm:ae w8 ⟨q,o,V⟩=af (.string ⟨#[97]⟩):=by
  have h:=hc2.get (r:=0) rfl;have e0:o+0*13+0=o:=by omega
  rw[e0] at h;exact h
 have N8:=hid (fun W (hb:ah w8.heap.size w8 W)=>(World.cell?_of_block (w:=w8) (w':=W) (a:=⟨q,o,V⟩) (hb.block q hlt)).trans hnm);have A8:=Md.far (w:=w8) 27 (Md.dB exM P);have Iu:Hid (ah w.heap.size w w8):=hid (by have q1:=FD.out;exact bl);clear k8 SI hlt hcc hc1 hc2 hnm sw FD;dsimp only [Md.dB] at A8 ⊢;rw[hsp,hsm] at A8;go_wp2_with fail;clear hsp hsm;refine(zy apZ _ (HE.out.below Q3) (by decide)).mono ?_;rintro e w9 ⟨Ev,P9,rfl,k9⟩;clear k9;dsimp only [Md.dB];go_wp2_with fail;refine(Fs ap0 _ (HE.out.below Q3) (by decide)).mono ?_;rintro e eX ⟨T_,oF,m10,c10,rfl,k10⟩;clear k10;go_wp2_with fail;refine(Fs ap1 _ (HE.out.below Q3) (by decide)).mono ?_;rintro e iC ⟨amY,C_,m11,c11,rfl,k11⟩;have d8:=A8.out iC bl;have z0:ae iC ⟨w8.heap.size,0,V⟩=af (.string ⟨#[109]⟩):=d8.get rfl;have z2:ae iC ⟨w8.heap.size,2,V⟩=af (.slice (af ⟨q,o,V⟩) 1 P.qg):=d8.get rfl;have zn:=N8.out iC bl;have ahy:Hid (ah w.heap.size w iC):=hid Q3;have KS:=hid (fun W (hb:ah iC.heap.size iC W)=>(k11.all).on hb);clear d8 k11 N8 A8 Ev T_ amY Iu;go_wp2_with fail;have J3:=an2 iC;refine(aeG (a:=Og) (b:=Og) (v:=true) (by kernel_rfl) (KS.out _ bl) J3).mono ?_;rintro e lK ⟨rfl,Gv⟩;have ahz:Hid (ah w.heap.size w lK):=hid (by have q1:=ahy.out;exact tT (ji q1) Gv);clear J3 KS Gv z0 z2 zn;go_wp2_with fail;go_ret;exact⟨rfl,ahz.out⟩
end Ps
namespace Md
open Go.RowKit Go.Maps
set_option maxHeartbeats 8000000
structure WA (P:Program) (pI:List Oper) (Q:Exit->Act->ag->Prop) (n:Nat) (a:Act) (w:ag):Prop where
 out:wpList P pI.toArray Q (pI.drop n) a w
end Md
end Go.Proofs.YtbgodajefaahdaaGreatDoor
