/-
  Parts of this proof: The contracts of what makes a node of the refere. The contracts of the reader's rules for expressi. The contracts of the reference's chains.
-/
import Derived.Test.YthnillhnjhalmaaGreatDoorYTRow
open Go.Proofs.Tryz
open Go.Lib renaming hid->U
open Option renaming none->D,some->af
open Go.Proofs.Tryz renaming prog->ae
open Go renaming bodyPost_ret->ag,Calls->aj,World->ak
open Go.World renaming cell?->ah
open Go.RowKit renaming Hid->ai
set_option linter.unusedVariables false
set_option maxRecDepth 100000
set_option maxHeartbeats 2000000
open Go.Lib (hid)
namespace Go.Proofs.YthnillhnjhalmaaGreatDoor
namespace Ps
open Go.RowKit
open Ex (Ex bW)
open Md (bX)
theorem ale {w w3 w':ak} {G:Nat->Prop} {x y:Ex} {p q:Option Addr} {m n c d:Nat} (o:Int) (hx:bW G w x p m) (hy:bW G w y q n) (h3:Below w.heap.size w w3) (hG:G w3.heap.size) (h':bT (fun k=>k<w.heap.size∨k=w3.heap.size) (w3.alloc (.cells #[.int .i64 x.o,.string x.s,.int .i64 x.n,.slice p m c,.int .i64 y.o,.string y.s,.int .i64 y.n,.slice q n d] 26)) w'):bW G w' (dF o x y) (af ⟨w3.heap.size,0,D⟩) 2:=by
 have up:∀(z:Ex) (r:Option Addr) (j:Nat),bW G w z r j->bW (fun b=>(b<w.heap.size∨b=w3.heap.size)/\G b) w3 z r j:=fun z r j h=>Ex.bW.map h3.size (fun b hb hlt=>⟨hb,h3.block b hlt⟩) z (h.mono fun b hb hlt=>⟨.inl hlt,hb⟩);exact Ex.bW.map h'.size (fun b hb hlt=>⟨hb.2,h'.block b hlt hb.1⟩) _ (wL (c:=c) (d:=d) o (up x p m hx) (up y q n hy) ⟨.inr rfl,hG⟩)
theorem ald {w w3 w':ak} {G:Nat->Prop} {x:Ex} {p:Option Addr} {m c:Nat} (o:Int) (hx:bW G w x p m) (h3:Below w.heap.size w w3) (hG:G w3.heap.size) (h':bT (fun k=>k<w.heap.size∨k=w3.heap.size) (w3.alloc (.cells #[.int .i64 x.o,.string x.s,.int .i64 x.n,.slice p m c] 26)) w'):bW G w' (iR o x) (af ⟨w3.heap.size,0,D⟩) 1:=by
 have up:bW (fun b=>(b<w.heap.size∨b=w3.heap.size)/\G b) w3 x p m:=Ex.bW.map h3.size (fun b hb hlt=>⟨hb,h3.block b hlt⟩) x (hx.mono fun b hb hlt=>⟨.inl hlt,hb⟩);exact Ex.bW.map h'.size (fun b hb hlt=>⟨hb.2,h'.block b hlt hb.1⟩) _ (DY (c:=c) o up ⟨.inr rfl,hG⟩)
theorem ado (o:Int) (x y:Ex) (p q:Option Addr) (m n c d:Nat) (w:ak):aj ae 41 #[.int .i64 o,.agg (b_ x p m c),.agg (b_ y q n d)] w (fun e w'=>Below w.heap.size w w'/\∃B,w.heap.size<=B/\e=.returned (.agg (b_ (dF o x y) (af ⟨B,0,D⟩) 2 2))/\∀G:Nat->Prop,bW G w x p m->bW G w y q n->G B->bW G w' (dF o x y) (af ⟨B,0,D⟩) 2):=by
 dsimp only [b_];go_enter func41,ntmps41;go_wp2_with fail;refine ag (v:=.agg #[.int .i64 o,.string ⟨#[]⟩,.int .i64 0,.slice (af ⟨w.heap.size+3,0,D⟩) 2 2]) ?_ rfl ⟨bl,w.heap.size+3,by omega,rfl,fun G hx hy hG=>?_⟩
 · refine results_cell_row rfl _ _ (w.heap.size+2) 26 _ (0,0) _ rfl ?_ underlying26 rfl dA;have b:=bX.new (w:=(w.alloc (.cells #[.int .i64 x.o,.string x.s,.int .i64 x.n,.slice p m c] 26)).alloc (.cells #[.int .i64 y.o,.string y.s,.int .i64 y.n,.slice q n d] 26)) (t:=26) (c:=#[.int .i64 o,.string ⟨#[]⟩,.int .i64 0,.slice (af ⟨w.heap.size+3,0,D⟩) 2 2]);rw[show((w.alloc (.cells #[.int .i64 x.o,.string x.s,.int .i64 x.n,.slice p m c] 26)).alloc (.cells #[.int .i64 y.o,.string y.s,.int .i64 y.n,.slice q n d] 26)).heap.size=w.heap.size+2 by simp] at b;exact b.on bl
 · have e:∀(A B C:Obj),(((w.alloc A).alloc B).alloc C).heap.size=w.heap.size+3:=fun A B C=>by simp
   have h:=ale (w3:=((w.alloc (.cells #[.int .i64 x.o,.string x.s,.int .i64 x.n,.slice p m c] 26)).alloc (.cells #[.int .i64 y.o,.string y.s,.int .i64 y.n,.slice q n d] 26)).alloc (.cells #[.int .i64 o,.string ⟨#[]⟩,.int .i64 0,.slice (af ⟨w.heap.size+3,0,D⟩) 2 2] 26)) (c:=c) (d:=d) o hx hy bl (by rw[e];exact hG) (bT.refl _ _);rwa [e] at h
theorem Nz (o:Int) (x:Ex) (p:Option Addr) (m c:Nat) (w:ak):aj ae 124 #[.int .i64 o,.agg (b_ x p m c)] w (fun e w'=>Below w.heap.size w w'/\∃B,w.heap.size<=B/\e=.returned (.agg (b_ (iR o x) (af ⟨B,0,D⟩) 1 1))/\∀G:Nat->Prop,bW G w x p m->G B->bW G w' (iR o x) (af ⟨B,0,D⟩) 1):=by
 dsimp only [b_];go_enter func124,ntmps124;go_wp2_with fail;refine ag (v:=.agg #[.int .i64 o,.string ⟨#[]⟩,.int .i64 0,.slice (af ⟨w.heap.size+2,0,D⟩) 1 1]) ?_ rfl ⟨bl,w.heap.size+2,by omega,rfl,fun G hx hG=>?_⟩
 · refine results_cell_row rfl _ _ (w.heap.size+1) 26 _ (0,0) _ rfl ?_ underlying26 rfl dA;have b:=bX.new (w:=w.alloc (.cells #[.int .i64 x.o,.string x.s,.int .i64 x.n,.slice p m c] 26)) (t:=26) (c:=#[.int .i64 o,.string ⟨#[]⟩,.int .i64 0,.slice (af ⟨w.heap.size+2,0,D⟩) 1 1]);rw[show(w.alloc (.cells #[.int .i64 x.o,.string x.s,.int .i64 x.n,.slice p m c] 26)).heap.size=w.heap.size+1 by simp] at b;exact b.on bl
 · have e:∀(A B:Obj),((w.alloc A).alloc B).heap.size=w.heap.size+2:=fun A B=>by simp
   have h:=ald (w3:=(w.alloc (.cells #[.int .i64 x.o,.string x.s,.int .i64 x.n,.slice p m c] 26)).alloc (.cells #[.int .i64 o,.string ⟨#[]⟩,.int .i64 0,.slice (af ⟨w.heap.size+2,0,D⟩) 1 1] 26)) (c:=c) o hx bl (by rw[e];exact hG) (bT.refl _ _);rwa [e] at h
end Ps
namespace Ps
open Ps.P (exp)
open Go.RowKit
open Lx (Tk)
open Ex (Ex bW)
open Md (bX)
theorem iQ {a:Nat} {w w2:ak} {x:Ex} {p:Option Addr} {m:Nat} (h:bW (fun b=>a<b) w x p m) (hb:bT (fun b=>a<b) w w2):bW (fun b=>a<=b) w2 x p m:=by
 have hk:∀b,(fun b=>a<b) b->b<w.heap.size->(fun b=>a<=b) b/\w2.heap[b]?=w.heap[b]?:=fun b hg hlt=>⟨Nat.le_of_lt hg,hb.block b hlt hg⟩
 exact Ex.bW.map hb.size hk x h
theorem ja {a:Nat} {w w2:ak} {x:Ex} {p:Option Addr} {m:Nat} (h:bW (fun b=>a<b) w x p m) (hb:bT (fun b=>a<b) w w2):bW (fun b=>a<b) w2 x p m:=by
 have hk:∀b,(fun b=>a<b) b->b<w.heap.size->(fun b=>a<b) b/\w2.heap[b]?=w.heap[b]?:=fun b hg hlt=>⟨hg,hb.block b hlt hg⟩
 exact Ex.bW.map hb.size hk x h
structure XC (L:Lk) (g:Nat) (n:Nat):Prop where
 xe:∀W u,Rd L g u W->u.length<n->aj ae 30 #[.pointer (af ⟨g,0,D⟩)] W (PO L g VX (run (fE n) u) W)
 xn:∀W u,Rd L g u W->u.length<n->aj ae 119 #[.pointer (af ⟨g,0,D⟩)] W (PO L g VX (run (fN n) u) W)
 xf:∀W u,Rd L g u W->u.length<n->aj ae 238 #[.pointer (af ⟨g,0,D⟩)] W (PO L g VX (run (fF n) u) W)
section
variable {L:Lk} {g:Nat} {t:List Tk} {n:Nat}
theorem ayR {p:Prop} (h:p:=by
 exact sJ
 ):p:=h
theorem abL (hX:XC L g n) (o:Int) (w:ak) (hR:Rd L g t w) (hn:t.length<=n):aj ae 269 #[.pointer (af ⟨g,0,D⟩),.int .i64 o] w (PO L g VX (run (one (fE n) o) t) w):=by
 have HX:=U hX.xe;have HD:ai (∀u,run (exp fK) t=.ok () u->u.length<n):=U fun u h=>by have:=((Dn.exp bS:Dn 1 (exp fK)).out hR.gd h).2;omega
 clear hX hn;refine eD hR ?_;clear hR;intro r HS HR HB hg;have Z:=jR w;go_enter func269,ntmps269;go_wp2_with fail;refine po HS HB (gX _ _ (HR.out.low qe) bS) ?_;clear HS HB HR;rintro x1 u1 v1 w1 r1 HS b1 rfl HR HB;have hu:=U (HD.out _ r1);replace Z:=bV Z w1;clear b1 r1 HD;have hz1:=Z.out.lt;go_wp2_with fail;refine po HS HB (HX.out _ _ (HR.out.low qe) hu.out) ?_;clear HS HB HR;rintro x2 u2 v2 w2-HS b2 ⟨p2,m2,c2,rfl,k2⟩ HR HB;replace Z:=bV Z w2;clear b2;have jC:=jv k2 w.heap.size;clear k2;dsimp only [b_];have Y:=U (bX.new (w:=w2) (t:=26) (c:=b_ x2 p2 m2 c2));dsimp only [b_] at Y;have hz2:=Z.out.lt;go_wp2_with fail;refine po HS HB (gX _ _ (HR.out.low qe) bS) ?_;clear HS HB HR;rintro x3 u3 v3 w3-HS b3 rfl HR HB;replace Z:=bV Z w3;replace Y:=bV Y w3;replace jC:=U (ja (w2:=w3) jC.out qe);clear b3;obtain⟨l0,l1,l2,l3,-⟩:=df Y.out;go_wp2_with fail;refine gi HR HB (xX _ _ _ _ _) ?_;clear HR HB;rintro w4 b4 hb4 HR HB;have hz3:=Z.out.lt;have KN:ai (bW (fun b=>w.heap.size<b) w4 (iR o x2) (af ⟨w3.heap.size,0,D⟩) 1):=U (Ex.bW.map hb4.size (fun b hb hlt=>⟨hb,hb4.block b hlt⟩) _ (DY (c:=c2) o jC.out hz3));replace Z:=bV Z w4;clear b4;clear hb4 l0 l1 l2 l3;obtain⟨y0,y1,y2,y3,fz⟩:=df Z.out;go_wp2_with fail;have bZ:=HB.out;refine ag (v:=.agg (b_ (iR o x2) (af ⟨w3.heap.size,0,D⟩) 1 1)) ?_ rfl (PO.ok (dD HS) qe ⟨(af ⟨w3.heap.size,0,D⟩),1,1,rfl,?_⟩ (HR.out.low qe))
 · exact ayR
 · exact afm
theorem abM (hX:XC L g n) (o:Int) (w:ak) (hR:Rd L g t w) (hn:t.length<=n):aj ae 270 #[.pointer (af ⟨g,0,D⟩),.int .i64 o] w (PO L g VX (run (two (fE n) o) t) w):=by
 have HX:=U hX.xe;have HD:ai (∀u,run (exp fK) t=.ok () u->u.length<n):=U fun u h=>by have:=((Dn.exp bS:Dn 1 (exp fK)).out hR.gd h).2;omega
 have HD2:ai (∀u v x,Gd u->u.length<n->run (fE n) u=.ok x v->v.length<n):=U fun u v x hg hl h=>by have:=((Dx n).out hg h).2;omega
 have HD3:ai (∀u v,Gd u->u.length<n->run (exp vC) u=.ok () v->v.length<n):=U fun u v hg hl h=>by have:=((Dn.exp bS:Dn 1 (exp vC)).out hg h).2;omega
 clear hX hn;refine eD hR ?_;clear hR;intro r HS HR HB hg;have Z:=jR w;go_enter func270,ntmps270;go_wp2_with fail;refine po HS HB (gX _ _ (HR.out.low qe) bS) ?_;clear HS HB HR;rintro x1 u1 v1 w1 r1 HS b1 rfl HR HB;have hu:=U (HD.out _ r1);replace Z:=bV Z w1;clear b1 r1 HD;have hz1:=Z.out.lt;go_wp2_with fail;refine po HS HB (HX.out _ _ (HR.out.low qe) hu.out) ?_;clear HS HB;rintro x2 u2 v2 w2 r2 HS b2 ⟨p2,m2,c2,rfl,k2⟩ R2 HB;replace hu:=U (HD2.out _ _ _ HR.out.gd hu.out r2);replace Z:=bV Z w2;replace HR:=R2;clear b2 r2 HD2;have jC:=jv k2 w.heap.size;clear k2;dsimp only [b_];have Y:=U (bX.new (w:=w2) (t:=26) (c:=b_ x2 p2 m2 c2));dsimp only [b_] at Y;have hz2:=Z.out.lt;go_wp2_with fail;refine po HS HB (gX _ _ (HR.out.low qe) bS) ?_;clear HS HB;rintro x3 u3 v3 w3 r3 HS b3 rfl R3 HB;replace hu:=U (HD3.out _ _ HR.out.gd hu.out r3);replace Z:=bV Z w3;replace Y:=bV Y w3;replace jC:=U (ja (w2:=w3) jC.out qe);replace HR:=R3;clear b3 r3 HD3;have hz3:=Z.out.lt;have hy3:=Y.out.lt;go_wp2_with fail;refine po HS HB (HX.out _ _ (HR.out.low qe) hu.out) ?_;clear HS HB HR;rintro x4 u4 v4 w4-HS b4 ⟨p4,m4,c4,rfl,k4⟩ HR HB;replace Z:=bV Z w4;replace Y:=bV Y w4;replace jC:=U (ja (w2:=w4) jC.out qe);clear b4;have Qi:=jv k4 w.heap.size;clear k4;dsimp only [b_];have X:=U (bX.new (w:=w4) (t:=26) (c:=b_ x4 p4 m4 c4));dsimp only [b_] at X;have jh:=Z.out.lt;have hy4:=Y.out.lt;go_wp2_with fail;refine po HS HB (gX _ _ (HR.out.low qe) bS) ?_;clear HS HB HR;rintro x5 u5 v5 w5-HS b5 rfl HR HB;replace Z:=bV Z w5;replace Y:=bV Y w5;replace jC:=U (ja (w2:=w5) jC.out qe);replace Qi:=U (ja (w2:=w5) Qi.out qe);replace X:=bV X w5;clear b5;obtain⟨l0,l1,l2,l3,-⟩:=df Y.out;obtain⟨j0,j1,j2,j3,-⟩:=df X.out;go_wp2_with fail;refine gi HR HB (xX _ _ _ _ _) ?_;clear HR HB;rintro w6 b6 hb6 HR HB;have F6:=Z.out.lt;have KN:ai (bW (fun b=>w.heap.size<b) w6 (dF o x2 x4) (af ⟨w5.heap.size,0,D⟩) 2):=U (Ex.bW.map hb6.size (fun b hb hlt=>⟨hb,hb6.block b hlt⟩) _ (wL (c:=c2) (d:=c4) o jC.out Qi.out F6));replace Z:=bV Z w6;clear b6;clear hb6 l0 l1 l2 l3 j0 j1 j2 j3;obtain⟨y0,y1,y2,y3,fz⟩:=df Z.out;go_wp2_with fail;have bZ:=HB.out;refine ag (v:=.agg (b_ (dF o x2 x4) (af ⟨w5.heap.size,0,D⟩) 2 2)) ?_ rfl (PO.ok (dD HS) qe ⟨(af ⟨w5.heap.size,0,D⟩),2,2,rfl,?_⟩ (HR.out.low qe))
 · exact ayR
 · exact afm
theorem TL (o:Int) (w:ak) (hR:Rd L g t w):aj ae 271 #[.pointer (af ⟨g,0,D⟩),.int .i64 o] w (PO L g VX (run (xZ o) t) w):=by
 refine eD hR ?_;clear hR;intro r HS HR HB hg;have Z:=jR w;go_enter func271,ntmps271;go_wp2_with fail;refine po HS HB (gX _ _ (HR.out.low qe) bS) ?_;clear HS HB HR;rintro x1 u1 v1 w1-HS b1 rfl HR HB;replace Z:=bV Z w1;clear b1;have hz1:=Z.out.lt;go_wp2_with fail;refine po HS HB (jK _ (HR.out.low qe)) ?_;clear HS HB HR;rintro x2 u2 v2 w2-HS b2 rfl HR HB;replace Z:=bV Z w2;clear b2;have hz2:=Z.out.lt;go_wp2_with fail;refine po HS HB (gX _ _ (HR.out.low qe) bS) ?_;clear HS HB HR;rintro x3 u3 v3 w3-HS b3 rfl HR HB;replace Z:=bV Z w3;clear b3;have hz3:=Z.out.lt;obtain⟨y0,y1,y2,y3,fz⟩:=df Z.out;have KN:ai (bW (fun b=>w.heap.size<b) w3 (uQ o x2) D 0):=U bW.zero;go_wp2_with fail;have bZ:=HB.out;refine ag (v:=.agg (b_ (uQ o x2) (D) 0 0)) ?_ rfl (PO.ok (dD HS) qe ⟨(D),0,0,rfl,?_⟩ (HR.out.low qe))
 · exact ayR
 · exact afm
end
end Ps
namespace Ps
open Ps.P (bd exp)
open Go.RowKit
open Lx (Tk)
open Ex (Ex bW)
open Md (bX)
theorem AY {α:Type} {m:P α} {n:Nat} {b b1:Bool} {t u:List Tk} {x:α} (hm:Dn n m) (g:Gd t) (h:Rel m b t x b1 u) (hb:b1=false):b=false/\u.length+n<=t.length:=by
 cases b with
 | true=>obtain⟨h1,-⟩:=h.1 rfl;rw[hb] at h1;cases h1
 | false=>
  rcases h.2 rfl with⟨h1,-⟩|⟨-,h2⟩
  · exact⟨rfl,(hm.out g h1).2⟩
  · rw[hb] at h2;cases h2
theorem BG {s:ByteArray} {t u:List Tk} {b1:Bool} {x:Unit} (h:is s t=true) (r:Rel (exp s) false t x b1 u):b1=false/\u=t.tail:=by
 rcases r.2 rfl with⟨h1,h2⟩|⟨h1,h2⟩
 · rw[uJ h] at h1;cases h1;exact⟨h2,rfl⟩
 · rw[uJ h] at h1;cases h1
structure Lt (L:Lk) (g:Nat) (m0:P Ex) (b0:Bool) (t0:List Tk) (m:P Ex) (os:List (ByteArray×Int)) (w:ak) (B:Nat) (k:Nat) (wr:ak):Prop where
 ex:∃e b u p j c,To m0 b0 t0 (gU m os k e) b u/\(b=false->u.length<k/\b0=false/\u.length<=t0.length)/\bX wr B 26 (b_ e p j c)/\bW (fun b=>w.heap.size<b/\¬b=B) wr e p j/\Rp L g b u wr
 bt:Bt g w wr
 res:∃z,z.size=4/\bX wr w.heap.size 26 z
section
variable {L:Lk} {g:Nat} {b:Bool} {t:List Tk} {m:P Ex}
theorem ay5 {p:Prop} (h:p:=by
 obtain⟨l0,l1,l2,l3,fz⟩:=df Y.out;go_wp2_with fail;go_region_with (first|(go_at_call 41;refine(ado _ _ _ _ _ _ _ _ _ _).mono ?_;rintro e' w4 ⟨hb4,B4,hB4,rfl,hk4⟩;dsimp only [b_];have q4:Bt g _ w4:=bT.of hb4;have s4:bX w4 w1.heap.size 26 (b_ e p2 m2 c2):=cO s3 qe;have y0:ah w4 ⟨w1.heap.size,0,D⟩=af (.int .i64 e.o):=s4.get rfl;have y1:ah w4 ⟨w1.heap.size,1,D⟩=af (.string e.s):=s4.get rfl;have y2:ah w4 ⟨w1.heap.size,2,D⟩=af (.int .i64 e.n):=s4.get rfl;have y3:ah w4 ⟨w1.heap.size,3,D⟩=af (.slice p2 m2 c2):=s4.get rfl;have Aw:∀i,World.frozen? w4 ⟨w1.heap.size,i,D⟩=false:=fun i=>eu (i:=i) s4)|(refine(HC.out _ _ _ (HR.out.low qe) (fun _=>⟨HB0.out,by have h1:=HT.out;have h2:=HU.out;omega⟩)).mono ?_;rintro e' w3 ⟨x3,b3,u3,v3,rfl,q3,⟨p3,m3,c3,rfl,k3⟩,R3,r3⟩;dsimp only [b_];have s3:=cO (w2:=w3) Y.out qe;have m0:ah w3 ⟨w1.heap.size,0,D⟩=af (.int .i64 e.o):=s3.get rfl;have rV:ah w3 ⟨w1.heap.size,1,D⟩=af (.string e.s):=s3.get rfl;have rW:ah w3 ⟨w1.heap.size,2,D⟩=af (.int .i64 e.n):=s3.get rfl;have rX:ah w3 ⟨w1.heap.size,3,D⟩=af (.slice p2 m2 c2):=s3.get rfl))
 all_goals
  have z2:=Y.out.lt;have HD:=U (fun h=>AY HM.out HG2.out r3 h);have HS2:=Oj oN r3;have Z3:bX w3 w.heap.size 26 zz:=cO (w2:=w3) Z.out qe;have Z4:bX w4 w.heap.size 26 zz:=cO Z3 qe;have B5:Bt g w w4:=by have bZ:=HB.out;exact qe
  have R4:Rp L g b3 u3 w4:=R3.low (oJ hb4);have KE:bW (fun b=>w.heap.size<b/\¬b=w1.heap.size) w3 e p2 m2:=Ex.bW.map (w:=w2) q3.size (fun b hb hlt=>⟨hb,q3.block b hlt bU⟩) e dO.out;have qR:(w2).heap.size<=w3.heap.size:=q3.size;have KX:bW (fun b=>w.heap.size<b/\¬b=w1.heap.size) w3 x3 p3 m3:=k3.mono fun b hb hlt=>by
   have hb2:(w2).heap.size<=b:=hb;exact⟨by omega,by omega⟩
  have K4:=hk4 (fun b=>w.heap.size<b/\¬b=w1.heap.size) KE KX ⟨by omega,by omega⟩;have D4:=U s4;have HQ:=U (And.intro Z4 (And.intro B5 (And.intro R4 K4)));clear Z3 Z4 B5 R4 KE KX K4 qR r3 k3 R3 q3 hb4 q4 s4 s3 hk4 m0 rV rW rX l0 l1 l2 l3 y0 y1 y2 y3 Aw fz;go_wp2_with fail;go_roundg k
  case measure=>exact Nat.lt_succ_self k
  case rel=>
   obtain⟨Z4,B5,R4,K4⟩:=HQ.out;have qS:∀op:Int,bT (fun b=>w.heap.size<b/\¬b=w1.heap.size) w4 ((((w4.setCell ⟨w1.heap.size,0,D⟩ (.int .i64 op)).setCell ⟨w1.heap.size,1,D⟩ (.string ⟨#[]⟩)).setCell ⟨w1.heap.size,2,D⟩ (.int .i64 0)).setCell ⟨w1.heap.size,3,D⟩ (.slice (af ⟨B4,0,D⟩) 2 2)):=by
    intro op;refine bT.set (bT.set (bT.set (bT.set (bT.refl _ _) ?_) ?_) ?_) ?_ <;> exact .inr fun h=>h.2 rfl
   exact⟨⟨dF _ e x3,b3,u3,_,2,2,HS2.out,fun h=>(by have h1:=HD.out h;have h2:=HT.out;have h3:=HL.out;have h4:=HU.out;exact⟨by omega,HB0.out,by omega⟩),mi D4.out rfl,Ex.bW.map (qS _).size (fun b hb hlt=>⟨hb,(qS _).block b hlt hb⟩) _ K4,R4.low qe⟩,by exact qe,zz,ru.out,cO Z4 qe⟩
 ):p:=h
theorem ayI {p:Prop} (h:p:=by
 have h2:=HF.out;refine⟨⟨x1,b1,u1,p1,m1,c1,HS.out,fun h=>(by have h1:=HT.out h;exact⟨by omega,h1.1,by omega⟩),bX.new,?_,HR.out.low qe⟩,by have bZ:=HB.out;exact qe,_,rfl,cO Z.out qe⟩;exact zzw
 ):p:=h
theorem ayS {p:Prop} (h:p:=by
 exact sJ
 ):p:=h
theorem ay6 {p:Prop} (h:p:=by
 have HE:=U oN;clear oN HS;obtain⟨z0',z1',z2',z3',rfl⟩:=four ru.out;obtain⟨l0,l1,l2,l3,-⟩:=df Y.out;obtain⟨y0,y1,y2,y3,fz⟩:=df Z.out;go_wp2_with fail;have bZ:=HB.out;refine ag (v:=.agg (b_ e p2 m2 c2)) ?_ rfl (QO.mk (V:=VX) (x:=e) ⟨p2,m2,c2,rfl,?_⟩ qe (HR.out.low qe) HE.out)
 · exact ayS
 · refine Ex.bW.map (G:=fun b=>w.heap.size<b/\¬b=w1.heap.size) (w:=zS) cz (fun b hb hlt=>⟨by show w.heap.size<=b;omega,?_⟩) e dO.out;have q:bT (fun k=>¬k=w.heap.size) zS ((((World.setCell zS ⟨w.heap.size,0,D⟩ (.int .i64 e.o)).setCell ⟨w.heap.size,1,D⟩ (.string e.s)).setCell ⟨w.heap.size,2,D⟩ (.int .i64 e.n)).setCell ⟨w.heap.size,3,D⟩ (.slice p2 m2 c2)):=by exact qe
   exact q.block b hlt bU
 ):p:=h
theorem ay7 {p:Prop} (h:p:=by
 clear HB HR;rintro x2 b2' u2 v2 w2 r2 q2 rfl HR HB;obtain⟨rfl,rfl⟩:=BG HI.out r2;replace Y:=bV Y w2;replace Z:=bV Z w2;replace dO:ai (bW (fun b=>w.heap.size<b/\¬b=w1.heap.size) w2 e p2 m2):=U (Ex.bW.map q2.size (fun b hb hlt=>⟨hb,q2.block b hlt bU⟩) e dO.out);clear q2 r2;exact ay5
 ):p:=h
theorem ayJ {p:Prop} (h:p:=by show fV _ _=_;rw[fV,HI.out,if_pos rfl]):p:=h
theorem ayL {p:Prop} (h:p:=by have:=hR.small;unfold FU;omega):p:=h
theorem am2 (hm:Dn 1 m) (w:ak) (hR:Rp L g b t w) (hC:∀W c u,Rp L g c u W->(c=false->b=false/\u.length<=t.length)->aj ae 75 #[.pointer (af ⟨g,0,D⟩)] W (QO L g VX m c u W)):aj ae 38 #[.pointer (af ⟨g,0,D⟩)] w (QO L g VX (gI m [(rR,18)]) b t w):=by
 have HC:=U hC;have HM:=U hm;have HF:ai (t.length<FU):=U ayL;have HG:=U hR.gd;have hg:=hR.blk;have HR:=U hR;have HB:ai (Bt g w w):=U (bT.refl _ _);have HS:ai (To (gI m [(rR,18)]) b t (gI m [(rR,18)]) b t):=yE;have Z:=jR w;clear hC hm hR;go_enter func38,ntmps38;go_wp2_with fail;refine qo HS HB (HC.out _ _ _ (HR.out.low qe) (fun h=>⟨h,Nat.le_refl _⟩)) ?_;clear HS HB HR;rintro x1 b1 u1 v1 w1 r1 HS q1 ⟨p1,m1,c1,rfl,k1⟩ HR HB;have HT:ai (b1=false->b=false/\u1.length+1<=t.length):=U fun h=>AY HM.out HG.out r1 h;replace Z:=bV Z w1;clear q1 r1;have e0:(w.alloc (.cells #[.int .i64 0,.string ⟨#[]⟩,.int .i64 0,.slice D 0 0] 26)).heap.size=w.heap.size+1:=by simp
 rw[e0] at k1;have K1:=U k1;have hz:=Z.out.lt;clear k1 e0;dsimp only [b_];go_wp2_with fail;go_loopg [] FU (Lt L g (gI m [(rR,18)]) b t m [(rR,18)] w w1.heap.size)
 case atStart=>
  exact ayI
 case round=>
  obtain⟨⟨e,b2,u,p2,m2,c2,hr,hk,hbx,dP,hR⟩,hb,zz,jh,hzb⟩:=hrel;clear HS HB HR HT K1 Z HF;have HS:=U hr;have HR:=U hR;have HB:=U hb;have HK:=U hk;have Y:=U hbx;have dO:=U dP;have Z:=U hzb;have ru:=U jh;have hgB:¬w1.heap.size=g:=by omega
  clear hr hR hb hk hbx dP hzb jh;obtain⟨z0,hz0⟩:∃z,(!b2&&is rR u)=z:=⟨_,rfl⟩
  have HZ0:=U hz0;clear hz0;go_wp2_with fail;refine gp HR HB (qL rR _ (HR.out.low qe) bS bS) ?_;clear HR HB;rintro zS q hbt HR HB;rw[HZ0.out];replace Y:=bV Y zS;replace Z:=bV Z zS;replace dO:ai (bW (fun b=>w.heap.size<b/\¬b=w1.heap.size) zS e p2 m2):=U (Ex.bW.map hbt.size (fun b hb hlt=>⟨hb,hbt.block b hlt⟩) e dO.out);clear q hbt
  cases z0 with
  | true=>
   obtain⟨rfl,hi⟩:b2=false/\is rR u=true:=by have h:=HZ0.out;simpa using h
   obtain⟨hl,hb0,hu⟩:=HK.out rfl;obtain⟨k,rfl⟩:∃k,gk=k+1:=⟨gk-1,by omega⟩
   have HI:=U hi;have hgd:=HR.out.gd;obtain⟨hg2,ht2⟩:=kU hgd bS hi;have HG2:=U hg2;have HT:=U ht2;have HL:=U hl;have HU:=U hu;have HB0:=U hb0;clear hi hl hgd hg2 ht2 hu hb0;have oN:ai (To (gI m [(rR,18)]) b t (bd m fun y=>gU m [(rR,18)] k (dF 18 e y)) false u.tail):=U fun x b' v h=>HS.out x b' v ⟨fun e=>(by cases e),fun _=>by have h2:=h.2 rfl;rw[gU,AQ (o:=18) ayJ];exact h2⟩;go_wp2_with fail;refine qr HB (Ow rR _ (HR.out.low qe) bS bS) ?_;exact ay7
  | false=>
   have oN:Rel (gI m [(rR,18)]) b t e b2 u:=HS.out _ _ _ (by
    cases b2 with
    | true=>exact Rel.bad
    | false=>
     obtain⟨hl,-,-⟩:=HK.out rfl;obtain⟨k,rfl⟩:∃k,gk=k+1:=⟨gk-1,by omega⟩
     refine Rel.ok ?_;rw[gU,Gn (by have h:=HZ0.out;show fV _ _=_;rw[fV,show is rR u=false by simpa using h,if_neg bS];rfl)]
     rfl)
   exact ay6
end
section
variable {L:Lk} {g:Nat} {b:Bool} {t:List Tk} {m:P Ex}
theorem am7 (hm:Dn 1 m) (w:ak) (hR:Rp L g b t w) (hC:∀W c u,Rp L g c u W->(c=false->b=false/\u.length<=t.length)->aj ae 38 #[.pointer (af ⟨g,0,D⟩)] W (QO L g VX m c u W)):aj ae 15 #[.pointer (af ⟨g,0,D⟩)] w (QO L g VX (gI m [(rT,19)]) b t w):=by
 have HC:=U hC;have HM:=U hm;have HF:ai (t.length<FU):=U ayL;have HG:=U hR.gd;have hg:=hR.blk;have HR:=U hR;have HB:ai (Bt g w w):=U (bT.refl _ _);have HS:ai (To (gI m [(rT,19)]) b t (gI m [(rT,19)]) b t):=yE;have Z:=jR w;clear hC hm hR;go_enter func15,ntmps15;go_wp2_with fail;refine qo HS HB (HC.out _ _ _ (HR.out.low qe) (fun h=>⟨h,Nat.le_refl _⟩)) ?_;clear HS HB HR;rintro x1 b1 u1 v1 w1 r1 HS q1 ⟨p1,m1,c1,rfl,k1⟩ HR HB;have HT:ai (b1=false->b=false/\u1.length+1<=t.length):=U fun h=>AY HM.out HG.out r1 h;replace Z:=bV Z w1;clear q1 r1;have e0:(w.alloc (.cells #[.int .i64 0,.string ⟨#[]⟩,.int .i64 0,.slice D 0 0] 26)).heap.size=w.heap.size+1:=by simp
 rw[e0] at k1;have K1:=U k1;have hz:=Z.out.lt;clear k1 e0;dsimp only [b_];go_wp2_with fail;go_loopg [] FU (Lt L g (gI m [(rT,19)]) b t m [(rT,19)] w w1.heap.size)
 case atStart=>
  exact ayI
 case round=>
  obtain⟨⟨e,b2,u,p2,m2,c2,hr,hk,hbx,dP,hR⟩,hb,zz,jh,hzb⟩:=hrel;clear HS HB HR HT K1 Z HF;have HS:=U hr;have HR:=U hR;have HB:=U hb;have HK:=U hk;have Y:=U hbx;have dO:=U dP;have Z:=U hzb;have ru:=U jh;have hgB:¬w1.heap.size=g:=by omega
  clear hr hR hb hk hbx dP hzb jh;obtain⟨z0,hz0⟩:∃z,(!b2&&is rT u)=z:=⟨_,rfl⟩
  have HZ0:=U hz0;clear hz0;go_wp2_with fail;refine gp HR HB (qL rT _ (HR.out.low qe) bS bS) ?_;clear HR HB;rintro zS q hbt HR HB;rw[HZ0.out];replace Y:=bV Y zS;replace Z:=bV Z zS;replace dO:ai (bW (fun b=>w.heap.size<b/\¬b=w1.heap.size) zS e p2 m2):=U (Ex.bW.map hbt.size (fun b hb hlt=>⟨hb,hbt.block b hlt⟩) e dO.out);clear q hbt
  cases z0 with
  | true=>
   obtain⟨rfl,hi⟩:b2=false/\is rT u=true:=by have h:=HZ0.out;simpa using h
   obtain⟨hl,hb0,hu⟩:=HK.out rfl;obtain⟨k,rfl⟩:∃k,gk=k+1:=⟨gk-1,by omega⟩
   have HI:=U hi;have hgd:=HR.out.gd;obtain⟨hg2,ht2⟩:=kU hgd bS hi;have HG2:=U hg2;have HT:=U ht2;have HL:=U hl;have HU:=U hu;have HB0:=U hb0;clear hi hl hgd hg2 ht2 hu hb0;have oN:ai (To (gI m [(rT,19)]) b t (bd m fun y=>gU m [(rT,19)] k (dF 19 e y)) false u.tail):=U fun x b' v h=>HS.out x b' v ⟨fun e=>(by cases e),fun _=>by have h2:=h.2 rfl;rw[gU,AQ (o:=19) ayJ];exact h2⟩;go_wp2_with fail;refine qr HB (Ow rT _ (HR.out.low qe) bS bS) ?_;exact ay7
  | false=>
   have oN:Rel (gI m [(rT,19)]) b t e b2 u:=HS.out _ _ _ (by
    cases b2 with
    | true=>exact Rel.bad
    | false=>
     obtain⟨hl,-,-⟩:=HK.out rfl;obtain⟨k,rfl⟩:∃k,gk=k+1:=⟨gk-1,by omega⟩
     refine Rel.ok ?_;rw[gU,Gn (by have h:=HZ0.out;show fV _ _=_;rw[fV,show is rT u=false by simpa using h,if_neg bS];rfl)]
     rfl)
   exact ay6
end
section
variable {L:Lk} {g:Nat} {b:Bool} {t:List Tk} {m:P Ex}
theorem ayD {p:Prop} (h:p:=by
 clear q hbt;go_wp2_with fail;refine(yg true _ (HR.out.low qe)).mono ?_;rintro e' w2 ⟨rfl,q2,R2⟩;have hkd:jb true false u=false:=by unfold jb;rw[decide_eq_false (by rcases zo HR.out.gd bS HI.out with h|h <;> omega)];rfl
 rw[og,hkd,if_neg bS] at R2;replace Y:=bV Y w2;replace Z:=bV Z w2;replace dO:ai (bW (fun b=>w.heap.size<b/\¬b=w1.heap.size) w2 e p2 m2):=U (Ex.bW.map q2.size (fun b hb hlt=>⟨hb,q2.block b hlt bU⟩) e dO.out);replace HB:=dJ HB w2;replace HR:=U R2;clear q2 R2 hkd;exact ay5
 ):p:=h
theorem ayK {p:Prop} (h:p:=by rw[Te HI.out (by decide)];rfl):p:=h
theorem am_ (hm:Dn 1 m) (w:ak) (hR:Rp L g b t w) (hC:∀W c u,Rp L g c u W->(c=false->b=false/\u.length<=t.length)->aj ae 178 #[.pointer (af ⟨g,0,D⟩)] W (QO L g VX m c u W)):aj ae 125 #[.pointer (af ⟨g,0,D⟩)] w (QO L g VX (gI m [(nJ,9),(eH,10)]) b t w):=by
 have HC:=U hC;have HM:=U hm;have HF:ai (t.length<FU):=U ayL;have HG:=U hR.gd;have hg:=hR.blk;have HR:=U hR;have HB:ai (Bt g w w):=U (bT.refl _ _);have HS:ai (To (gI m [(nJ,9),(eH,10)]) b t (gI m [(nJ,9),(eH,10)]) b t):=yE;have Z:=jR w;clear hC hm hR;go_enter func125,ntmps125;go_wp2_with fail;refine qo HS HB (HC.out _ _ _ (HR.out.low qe) (fun h=>⟨h,Nat.le_refl _⟩)) ?_;clear HS HB HR;rintro x1 b1 u1 v1 w1 r1 HS q1 ⟨p1,m1,c1,rfl,k1⟩ HR HB;have HT:ai (b1=false->b=false/\u1.length+1<=t.length):=U fun h=>AY HM.out HG.out r1 h;replace Z:=bV Z w1;clear q1 r1;have e0:(w.alloc (.cells #[.int .i64 0,.string ⟨#[]⟩,.int .i64 0,.slice D 0 0] 26)).heap.size=w.heap.size+1:=by simp
 rw[e0] at k1;have K1:=U k1;have hz:=Z.out.lt;clear k1 e0;dsimp only [b_];go_wp2_with fail;go_loopg [] FU (Lt L g (gI m [(nJ,9),(eH,10)]) b t m [(nJ,9),(eH,10)] w w1.heap.size)
 case atStart=>
  exact ayI
 case round=>
  obtain⟨⟨e,b2,u,p2,m2,c2,hr,hk,hbx,dP,hR⟩,hb,zz,jh,hzb⟩:=hrel;clear HS HB HR HT K1 Z HF;have HS:=U hr;have HR:=U hR;have HB:=U hb;have HK:=U hk;have Y:=U hbx;have dO:=U dP;have Z:=U hzb;have ru:=U jh;have hgB:¬w1.heap.size=g:=by omega
  clear hr hR hb hk hbx dP hzb jh;obtain⟨z0,hz0⟩:∃z,(!b2&&is nJ u)=z:=⟨_,rfl⟩
  have HZ0:=U hz0;clear hz0;obtain⟨z1,hz1⟩:∃z,(!b2&&is eH u)=z:=⟨_,rfl⟩
  have HZ1:=U hz1;clear hz1
  cases z0 with
  | true=>
   obtain⟨rfl,hi⟩:b2=false/\is nJ u=true:=by have h:=HZ0.out;simpa using h
   obtain⟨hl,hb0,hu⟩:=HK.out rfl;obtain⟨k,rfl⟩:∃k,gk=k+1:=⟨gk-1,by omega⟩
   have HI:=U hi;have hgd:=HR.out.gd;obtain⟨hg2,ht2⟩:=kU hgd bS hi;have HG2:=U hg2;have HT:=U ht2;have HL:=U hl;have HU:=U hu;have HB0:=U hb0;clear hi hl hgd hg2 ht2 hu hb0;have oN:ai (To (gI m [(nJ,9),(eH,10)]) b t (bd m fun y=>gU m [(nJ,9),(eH,10)] k (dF 9 e y)) false u.tail):=U fun x b' v h=>HS.out x b' v ⟨fun e=>(by cases e),fun _=>by have h2:=h.2 rfl;rw[gU,AQ (o:=9) ayJ];exact h2⟩;replace HZ1:ai ((!false&&is eH u)=false):=U ayK;go_wp2_with fail;refine gp HR HB (iF nJ _ (HR.out.low qe) bS bS) ?_;clear HR HB;rintro zT q hbt HR HB;rw[HZ0.out];replace Y:=bV Y zT;replace Z:=bV Z zT;replace dO:ai (bW (fun b=>w.heap.size<b/\¬b=w1.heap.size) zT e p2 m2):=U (Ex.bW.map hbt.size (fun b hb hlt=>⟨hb,hbt.block b hlt⟩) e dO.out);clear q hbt;go_wp2_with fail;refine gp HR HB (iF eH _ (HR.out.low qe) bS bS) ?_;clear HR HB;rintro zV q hbt HR HB;rw[HZ1.out];replace Y:=bV Y zV;replace Z:=bV Z zV;replace dO:ai (bW (fun b=>w.heap.size<b/\¬b=w1.heap.size) zV e p2 m2):=U (Ex.bW.map hbt.size (fun b hb hlt=>⟨hb,hbt.block b hlt⟩) e dO.out);exact ayD
  | false=>
   cases z1 with
   | true=>
    obtain⟨rfl,hi⟩:b2=false/\is eH u=true:=by have h:=HZ1.out;simpa using h
    obtain⟨hl,hb0,hu⟩:=HK.out rfl;obtain⟨k,rfl⟩:∃k,gk=k+1:=⟨gk-1,by omega⟩
    have HI:=U hi;have hgd:=HR.out.gd;obtain⟨hg2,ht2⟩:=kU hgd bS hi;have HG2:=U hg2;have HT:=U ht2;have HL:=U hl;have HU:=U hu;have HB0:=U hb0;clear hi hl hgd hg2 ht2 hu hb0;have hf0:is nJ u=false:=by have h:=HZ0.out;simpa using h
    have oN:ai (To (gI m [(nJ,9),(eH,10)]) b t (bd m fun y=>gU m [(nJ,9),(eH,10)] k (dF 10 e y)) false u.tail):=U fun x b' v h=>HS.out x b' v ⟨fun e=>(by cases e),fun _=>by have h2:=h.2 rfl;rw[gU,AQ (o:=10) (by show fV _ _=_;rw[fV,hf0,if_neg bS,fV,HI.out,if_pos rfl])];exact h2⟩;clear hf0;go_wp2_with fail;refine gp HR HB (iF nJ _ (HR.out.low qe) bS bS) ?_;clear HR HB;rintro zW q hbt HR HB;rw[HZ0.out];replace Y:=bV Y zW;replace Z:=bV Z zW;replace dO:ai (bW (fun b=>w.heap.size<b/\¬b=w1.heap.size) zW e p2 m2):=U (Ex.bW.map hbt.size (fun b hb hlt=>⟨hb,hbt.block b hlt⟩) e dO.out);clear q hbt;go_wp2_with fail;refine gp HR HB (iF eH _ (HR.out.low qe) bS bS) ?_;clear HR HB;rintro zX q hbt HR HB;rw[HZ1.out];replace Y:=bV Y zX;replace Z:=bV Z zX;replace dO:ai (bW (fun b=>w.heap.size<b/\¬b=w1.heap.size) zX e p2 m2):=U (Ex.bW.map hbt.size (fun b hb hlt=>⟨hb,hbt.block b hlt⟩) e dO.out);clear q hbt;go_wp2_with fail;refine gp HR HB (iF eH _ (HR.out.low qe) bS bS) ?_;clear HR HB;rintro yQ q hbt HR HB;rw[HZ1.out];replace Y:=bV Y yQ;replace Z:=bV Z yQ;replace dO:ai (bW (fun b=>w.heap.size<b/\¬b=w1.heap.size) yQ e p2 m2):=U (Ex.bW.map hbt.size (fun b hb hlt=>⟨hb,hbt.block b hlt⟩) e dO.out);exact ayD
   | false=>
    go_wp2_with fail;refine gp HR HB (iF nJ _ (HR.out.low qe) bS bS) ?_;clear HR HB;rintro yR q hbt HR HB;rw[HZ0.out];replace Y:=bV Y yR;replace Z:=bV Z yR;replace dO:ai (bW (fun b=>w.heap.size<b/\¬b=w1.heap.size) yR e p2 m2):=U (Ex.bW.map hbt.size (fun b hb hlt=>⟨hb,hbt.block b hlt⟩) e dO.out);clear q hbt;go_wp2_with fail;refine gp HR HB (iF eH _ (HR.out.low qe) bS bS) ?_;clear HR HB;rintro tY q hbt HR HB;rw[HZ1.out];replace Y:=bV Y tY;replace Z:=bV Z tY;replace dO:ai (bW (fun b=>w.heap.size<b/\¬b=w1.heap.size) tY e p2 m2):=U (Ex.bW.map hbt.size (fun b hb hlt=>⟨hb,hbt.block b hlt⟩) e dO.out);clear q hbt;have oN:Rel (gI m [(nJ,9),(eH,10)]) b t e b2 u:=HS.out _ _ _ (by
     cases b2 with
     | true=>exact Rel.bad
     | false=>
      obtain⟨hl,-,-⟩:=HK.out rfl;obtain⟨k,rfl⟩:∃k,gk=k+1:=⟨gk-1,by omega⟩
      refine Rel.ok ?_;rw[gU,Gn (by show fV _ _=_;rw[fV,show is nJ u=false by have h:=HZ0.out;simpa using h,if_neg bS,fV,show is eH u=false by have h:=HZ1.out;simpa using h,if_neg bS];rfl)]
      rfl)
    have HE:=U oN;clear oN HS;obtain⟨z0',z1',z2',z3',rfl⟩:=four ru.out;obtain⟨l0,l1,l2,l3,-⟩:=df Y.out;obtain⟨y0,y1,y2,y3,fz⟩:=df Z.out;go_wp2_with fail;have bZ:=HB.out;refine ag (v:=.agg (b_ e p2 m2 c2)) ?_ rfl (QO.mk (V:=VX) (x:=e) ⟨p2,m2,c2,rfl,?_⟩ qe (HR.out.low qe) HE.out)
    · exact ayS
    · refine Ex.bW.map (G:=fun b=>w.heap.size<b/\¬b=w1.heap.size) (w:=tY) cz (fun b hb hlt=>⟨by show w.heap.size<=b;omega,?_⟩) e dO.out;have q:bT (fun k=>¬k=w.heap.size) tY ((((World.setCell tY ⟨w.heap.size,0,D⟩ (.int .i64 e.o)).setCell ⟨w.heap.size,1,D⟩ (.string e.s)).setCell ⟨w.heap.size,2,D⟩ (.int .i64 e.n)).setCell ⟨w.heap.size,3,D⟩ (.slice p2 m2 c2)):=by exact qe
      exact q.block b hlt bU
end
section
variable {L:Lk} {g:Nat} {b:Bool} {t:List Tk} {m:P Ex}
theorem am9 (hm:Dn 1 m) (w:ak) (hR:Rp L g b t w) (hC:∀W c u,Rp L g c u W->(c=false->b=false/\u.length<=t.length)->aj ae 209 #[.pointer (af ⟨g,0,D⟩)] W (QO L g VX m c u W)):aj ae 178 #[.pointer (af ⟨g,0,D⟩)] w (QO L g VX (gI m [(kE,11),(kP,12),(kZ,13)]) b t w):=by
 have HC:=U hC;have HM:=U hm;have HF:ai (t.length<FU):=U ayL;have HG:=U hR.gd;have hg:=hR.blk;have HR:=U hR;have HB:ai (Bt g w w):=U (bT.refl _ _);have HS:ai (To (gI m [(kE,11),(kP,12),(kZ,13)]) b t (gI m [(kE,11),(kP,12),(kZ,13)]) b t):=yE;have Z:=jR w;clear hC hm hR;go_enter func178,ntmps178;go_wp2_with fail;refine qo HS HB (HC.out _ _ _ (HR.out.low qe) (fun h=>⟨h,Nat.le_refl _⟩)) ?_;clear HS HB HR;rintro x1 b1 u1 v1 w1 r1 HS q1 ⟨p1,m1,c1,rfl,k1⟩ HR HB;have HT:ai (b1=false->b=false/\u1.length+1<=t.length):=U fun h=>AY HM.out HG.out r1 h;replace Z:=bV Z w1;clear q1 r1;have e0:(w.alloc (.cells #[.int .i64 0,.string ⟨#[]⟩,.int .i64 0,.slice D 0 0] 26)).heap.size=w.heap.size+1:=by simp
 rw[e0] at k1;have K1:=U k1;have hz:=Z.out.lt;clear k1 e0;dsimp only [b_];go_wp2_with fail;go_loopg [] FU (Lt L g (gI m [(kE,11),(kP,12),(kZ,13)]) b t m [(kE,11),(kP,12),(kZ,13)] w w1.heap.size)
 case atStart=>
  exact ayI
 case round=>
  obtain⟨⟨e,b2,u,p2,m2,c2,hr,hk,hbx,dP,hR⟩,hb,zz,jh,hzb⟩:=hrel;clear HS HB HR HT K1 Z HF;have HS:=U hr;have HR:=U hR;have HB:=U hb;have HK:=U hk;have Y:=U hbx;have dO:=U dP;have Z:=U hzb;have ru:=U jh;have hgB:¬w1.heap.size=g:=by omega
  clear hr hR hb hk hbx dP hzb jh;obtain⟨z0,hz0⟩:∃z,(!b2&&is kE u)=z:=⟨_,rfl⟩
  have HZ0:=U hz0;clear hz0;obtain⟨z1,hz1⟩:∃z,(!b2&&is kP u)=z:=⟨_,rfl⟩
  have HZ1:=U hz1;clear hz1;obtain⟨z2,hz2⟩:∃z,(!b2&&is kZ u)=z:=⟨_,rfl⟩
  have HZ2:=U hz2;clear hz2
  cases z0 with
  | true=>
   obtain⟨rfl,hi⟩:b2=false/\is kE u=true:=by have h:=HZ0.out;simpa using h
   obtain⟨hl,hb0,hu⟩:=HK.out rfl;obtain⟨k,rfl⟩:∃k,gk=k+1:=⟨gk-1,by omega⟩
   have HI:=U hi;have hgd:=HR.out.gd;obtain⟨hg2,ht2⟩:=kU hgd bS hi;have HG2:=U hg2;have HT:=U ht2;have HL:=U hl;have HU:=U hu;have HB0:=U hb0;clear hi hl hgd hg2 ht2 hu hb0;have oN:ai (To (gI m [(kE,11),(kP,12),(kZ,13)]) b t (bd m fun y=>gU m [(kE,11),(kP,12),(kZ,13)] k (dF 11 e y)) false u.tail):=U fun x b' v h=>HS.out x b' v ⟨fun e=>(by cases e),fun _=>by have h2:=h.2 rfl;rw[gU,AQ (o:=11) ayJ];exact h2⟩;replace HZ1:ai ((!false&&is kP u)=false):=U ayK;replace HZ2:ai ((!false&&is kZ u)=false):=U ayK;go_wp2_with fail;refine gp HR HB (iF kE _ (HR.out.low qe) bS bS) ?_;clear HR HB;rintro zT q hbt HR HB;rw[HZ0.out];replace Y:=bV Y zT;replace Z:=bV Z zT;replace dO:ai (bW (fun b=>w.heap.size<b/\¬b=w1.heap.size) zT e p2 m2):=U (Ex.bW.map hbt.size (fun b hb hlt=>⟨hb,hbt.block b hlt⟩) e dO.out);clear q hbt;go_wp2_with fail;refine gp HR HB (iF kP _ (HR.out.low qe) bS bS) ?_;clear HR HB;rintro zV q hbt HR HB;rw[HZ1.out];replace Y:=bV Y zV;replace Z:=bV Z zV;replace dO:ai (bW (fun b=>w.heap.size<b/\¬b=w1.heap.size) zV e p2 m2):=U (Ex.bW.map hbt.size (fun b hb hlt=>⟨hb,hbt.block b hlt⟩) e dO.out);clear q hbt;go_wp2_with fail;refine gp HR HB (iF kZ _ (HR.out.low qe) bS bS) ?_;clear HR HB;rintro zW q hbt HR HB;rw[HZ2.out];replace Y:=bV Y zW;replace Z:=bV Z zW;replace dO:ai (bW (fun b=>w.heap.size<b/\¬b=w1.heap.size) zW e p2 m2):=U (Ex.bW.map hbt.size (fun b hb hlt=>⟨hb,hbt.block b hlt⟩) e dO.out);exact ayD
  | false=>
   cases z1 with
   | true=>
    obtain⟨rfl,hi⟩:b2=false/\is kP u=true:=by have h:=HZ1.out;simpa using h
    obtain⟨hl,hb0,hu⟩:=HK.out rfl;obtain⟨k,rfl⟩:∃k,gk=k+1:=⟨gk-1,by omega⟩
    have HI:=U hi;have hgd:=HR.out.gd;obtain⟨hg2,ht2⟩:=kU hgd bS hi;have HG2:=U hg2;have HT:=U ht2;have HL:=U hl;have HU:=U hu;have HB0:=U hb0;clear hi hl hgd hg2 ht2 hu hb0;have hf0:is kE u=false:=by have h:=HZ0.out;simpa using h
    have oN:ai (To (gI m [(kE,11),(kP,12),(kZ,13)]) b t (bd m fun y=>gU m [(kE,11),(kP,12),(kZ,13)] k (dF 12 e y)) false u.tail):=U fun x b' v h=>HS.out x b' v ⟨fun e=>(by cases e),fun _=>by have h2:=h.2 rfl;rw[gU,AQ (o:=12) (by show fV _ _=_;rw[fV,hf0,if_neg bS,fV,HI.out,if_pos rfl])];exact h2⟩;clear hf0;replace HZ2:ai ((!false&&is kZ u)=false):=U ayK;go_wp2_with fail;refine gp HR HB (iF kE _ (HR.out.low qe) bS bS) ?_;clear HR HB;rintro zX q hbt HR HB;rw[HZ0.out];replace Y:=bV Y zX;replace Z:=bV Z zX;replace dO:ai (bW (fun b=>w.heap.size<b/\¬b=w1.heap.size) zX e p2 m2):=U (Ex.bW.map hbt.size (fun b hb hlt=>⟨hb,hbt.block b hlt⟩) e dO.out);clear q hbt;go_wp2_with fail;refine gp HR HB (iF kP _ (HR.out.low qe) bS bS) ?_;clear HR HB;rintro yQ q hbt HR HB;rw[HZ1.out];replace Y:=bV Y yQ;replace Z:=bV Z yQ;replace dO:ai (bW (fun b=>w.heap.size<b/\¬b=w1.heap.size) yQ e p2 m2):=U (Ex.bW.map hbt.size (fun b hb hlt=>⟨hb,hbt.block b hlt⟩) e dO.out);clear q hbt;go_wp2_with fail;refine gp HR HB (iF kP _ (HR.out.low qe) bS bS) ?_;clear HR HB;rintro yR q hbt HR HB;rw[HZ1.out];replace Y:=bV Y yR;replace Z:=bV Z yR;replace dO:ai (bW (fun b=>w.heap.size<b/\¬b=w1.heap.size) yR e p2 m2):=U (Ex.bW.map hbt.size (fun b hb hlt=>⟨hb,hbt.block b hlt⟩) e dO.out);clear q hbt;go_wp2_with fail;refine gp HR HB (iF kZ _ (HR.out.low qe) bS bS) ?_;clear HR HB;rintro tY q hbt HR HB;rw[HZ2.out];replace Y:=bV Y tY;replace Z:=bV Z tY;replace dO:ai (bW (fun b=>w.heap.size<b/\¬b=w1.heap.size) tY e p2 m2):=U (Ex.bW.map hbt.size (fun b hb hlt=>⟨hb,hbt.block b hlt⟩) e dO.out);exact ayD
   | false=>
    cases z2 with
    | true=>
     obtain⟨rfl,hi⟩:b2=false/\is kZ u=true:=by have h:=HZ2.out;simpa using h
     obtain⟨hl,hb0,hu⟩:=HK.out rfl;obtain⟨k,rfl⟩:∃k,gk=k+1:=⟨gk-1,by omega⟩
     have HI:=U hi;have hgd:=HR.out.gd;obtain⟨hg2,ht2⟩:=kU hgd bS hi;have HG2:=U hg2;have HT:=U ht2;have HL:=U hl;have HU:=U hu;have HB0:=U hb0;clear hi hl hgd hg2 ht2 hu hb0;have hf0:is kE u=false:=by have h:=HZ0.out;simpa using h
     have hf1:is kP u=false:=by have h:=HZ1.out;simpa using h
     have oN:ai (To (gI m [(kE,11),(kP,12),(kZ,13)]) b t (bd m fun y=>gU m [(kE,11),(kP,12),(kZ,13)] k (dF 13 e y)) false u.tail):=U fun x b' v h=>HS.out x b' v ⟨fun e=>(by cases e),fun _=>by have h2:=h.2 rfl;rw[gU,AQ (o:=13) (by show fV _ _=_;rw[fV,hf0,if_neg bS,fV,hf1,if_neg bS,fV,HI.out,if_pos rfl])];exact h2⟩;clear hf0;clear hf1;go_wp2_with fail;refine gp HR HB (iF kE _ (HR.out.low qe) bS bS) ?_;clear HR HB;rintro ER q hbt HR HB;rw[HZ0.out];replace Y:=bV Y ER;replace Z:=bV Z ER;replace dO:ai (bW (fun b=>w.heap.size<b/\¬b=w1.heap.size) ER e p2 m2):=U (Ex.bW.map hbt.size (fun b hb hlt=>⟨hb,hbt.block b hlt⟩) e dO.out);clear q hbt;go_wp2_with fail;refine gp HR HB (iF kP _ (HR.out.low qe) bS bS) ?_;clear HR HB;rintro ES q hbt HR HB;rw[HZ1.out];replace Y:=bV Y ES;replace Z:=bV Z ES;replace dO:ai (bW (fun b=>w.heap.size<b/\¬b=w1.heap.size) ES e p2 m2):=U (Ex.bW.map hbt.size (fun b hb hlt=>⟨hb,hbt.block b hlt⟩) e dO.out);clear q hbt;go_wp2_with fail;refine gp HR HB (iF kZ _ (HR.out.low qe) bS bS) ?_;clear HR HB;rintro EN q hbt HR HB;rw[HZ2.out];replace Y:=bV Y EN;replace Z:=bV Z EN;replace dO:ai (bW (fun b=>w.heap.size<b/\¬b=w1.heap.size) EN e p2 m2):=U (Ex.bW.map hbt.size (fun b hb hlt=>⟨hb,hbt.block b hlt⟩) e dO.out);clear q hbt;go_wp2_with fail;refine gp HR HB (iF kP _ (HR.out.low qe) bS bS) ?_;clear HR HB;rintro EP q hbt HR HB;rw[HZ1.out];replace Y:=bV Y EP;replace Z:=bV Z EP;replace dO:ai (bW (fun b=>w.heap.size<b/\¬b=w1.heap.size) EP e p2 m2):=U (Ex.bW.map hbt.size (fun b hb hlt=>⟨hb,hbt.block b hlt⟩) e dO.out);clear q hbt;go_wp2_with fail;refine gp HR HB (iF kZ _ (HR.out.low qe) bS bS) ?_;clear HR HB;rintro GK q hbt HR HB;rw[HZ2.out];replace Y:=bV Y GK;replace Z:=bV Z GK;replace dO:ai (bW (fun b=>w.heap.size<b/\¬b=w1.heap.size) GK e p2 m2):=U (Ex.bW.map hbt.size (fun b hb hlt=>⟨hb,hbt.block b hlt⟩) e dO.out);exact ayD
    | false=>
     go_wp2_with fail;refine gp HR HB (iF kE _ (HR.out.low qe) bS bS) ?_;clear HR HB;rintro U8 q hbt HR HB;rw[HZ0.out];replace Y:=bV Y U8;replace Z:=bV Z U8;replace dO:ai (bW (fun b=>w.heap.size<b/\¬b=w1.heap.size) U8 e p2 m2):=U (Ex.bW.map hbt.size (fun b hb hlt=>⟨hb,hbt.block b hlt⟩) e dO.out);clear q hbt;go_wp2_with fail;refine gp HR HB (iF kP _ (HR.out.low qe) bS bS) ?_;clear HR HB;rintro U9 q hbt HR HB;rw[HZ1.out];replace Y:=bV Y U9;replace Z:=bV Z U9;replace dO:ai (bW (fun b=>w.heap.size<b/\¬b=w1.heap.size) U9 e p2 m2):=U (Ex.bW.map hbt.size (fun b hb hlt=>⟨hb,hbt.block b hlt⟩) e dO.out);clear q hbt;go_wp2_with fail;refine gp HR HB (iF kZ _ (HR.out.low qe) bS bS) ?_;clear HR HB;rintro GL q hbt HR HB;rw[HZ2.out];replace Y:=bV Y GL;replace Z:=bV Z GL;replace dO:ai (bW (fun b=>w.heap.size<b/\¬b=w1.heap.size) GL e p2 m2):=U (Ex.bW.map hbt.size (fun b hb hlt=>⟨hb,hbt.block b hlt⟩) e dO.out);clear q hbt;have oN:Rel (gI m [(kE,11),(kP,12),(kZ,13)]) b t e b2 u:=HS.out _ _ _ (by
      cases b2 with
      | true=>exact Rel.bad
      | false=>
       obtain⟨hl,-,-⟩:=HK.out rfl;obtain⟨k,rfl⟩:∃k,gk=k+1:=⟨gk-1,by omega⟩
       refine Rel.ok ?_;rw[gU,Gn (by show fV _ _=_;rw[fV,show is kE u=false by have h:=HZ0.out;simpa using h,if_neg bS,fV,show is kP u=false by have h:=HZ1.out;simpa using h,if_neg bS,fV,show is kZ u=false by have h:=HZ2.out;simpa using h,if_neg bS];rfl)]
       rfl)
     have HE:=U oN;clear oN HS;obtain⟨z0',z1',z2',z3',rfl⟩:=four ru.out;obtain⟨l0,l1,l2,l3,-⟩:=df Y.out;obtain⟨y0,y1,y2,y3,fz⟩:=df Z.out;go_wp2_with fail;have bZ:=HB.out;refine ag (v:=.agg (b_ e p2 m2 c2)) ?_ rfl (QO.mk (V:=VX) (x:=e) ⟨p2,m2,c2,rfl,?_⟩ qe (HR.out.low qe) HE.out)
     · exact ayS
     · refine Ex.bW.map (G:=fun b=>w.heap.size<b/\¬b=w1.heap.size) (w:=GL) cz (fun b hb hlt=>⟨by show w.heap.size<=b;omega,?_⟩) e dO.out;have q:bT (fun k=>¬k=w.heap.size) GL ((((World.setCell GL ⟨w.heap.size,0,D⟩ (.int .i64 e.o)).setCell ⟨w.heap.size,1,D⟩ (.string e.s)).setCell ⟨w.heap.size,2,D⟩ (.int .i64 e.n)).setCell ⟨w.heap.size,3,D⟩ (.slice p2 m2 c2)):=by exact qe
       exact q.block b hlt bU
end
end Ps
end Go.Proofs.YthnillhnjhalmaaGreatDoor
