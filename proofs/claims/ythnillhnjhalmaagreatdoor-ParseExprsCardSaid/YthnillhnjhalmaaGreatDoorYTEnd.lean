/-
  Parts of this proof: The ends of texts. Reading results that lie in variables. The contracts of follow. The contracts of endLine and scan. The contract of scan. The contract of Tokens. Lines.
-/
import Derived.Test.YthnillhnjhalmaaGreatDoorYTXC
open Go.Proofs.Tryz
open Go renaming World->ae,Value->ai
open Go.Proofs.Tryz renaming prog->af
open Nat renaming le_refl->ag
open List renaming length_cons->ah,length_append->au
open Option renaming none->aj,some->ak
open Go.Lib renaming hid->U
open Go.RowKit renaming Below->av
open Go.RowKit.Below renaming refl->ax
set_option linter.unusedVariables false
set_option maxRecDepth 100000
set_option maxHeartbeats 4000000
open Go.Lib (hid)
namespace Go.Proofs.YthnillhnjhalmaaGreatDoor
namespace Ps
open Ps.P (len)
open Go.RowKit
open Lx (Tk)
open Md (bX)
def TZ (g:Nat) (k:Int) (t:List Tk) (w:ae) (e:Ending) (w':ae):Prop:=
 Bt g w w'/\(((hd t).k=k/\e=.returned (tv (hd t)))∨(¬(hd t).k=k/\e=.panicked (uP (hd t).l)))
def PE {α:Type} (g:Nat) (V:Nat->ae->α->ai->Prop) (r:R α) (w:ae) (e:Ending) (w':ae):Prop:=
 Bt g w w'/\match r with
  | .ok x u=>∃v,e=.returned v/\V w.heap.size w' x v
  | .no u=>e=.panicked (uP (hd u).l)
section
variable {α:Type} {g:Nat} {V:Nat->ae->α->ai->Prop} {r:R α} {w w':ae} {e:Ending} {x:α} {u:List Tk} {v:ai}
theorem PE.ok (hr:r=.ok x u) (hb:Bt g w w') (hV:V w.heap.size w' x v):PE g V r w (.returned v) w':=by subst hr;exact⟨hb,v,rfl,hV⟩
theorem PE.no (hr:r=.no u) (hb:Bt g w w'):PE g V r w (.panicked (uP (hd u).l)) w':=by subst hr;exact⟨hb,rfl⟩
theorem PE.cases (h:PE g V r w e w'):(∃x u v,r=.ok x u/\e=.returned v/\Bt g w w'/\V w.heap.size w' x v)∨(∃u,r=.no u/\e=.panicked (uP (hd u).l)/\Bt g w w'):=by
 obtain⟨hb,h⟩:=h
 cases r with
 | ok x u=>obtain⟨v,h1,h2⟩:=h;exact .inl ⟨x,u,v,rfl,h1,hb,h2⟩
 | no u=>exact .inr ⟨u,rfl,h,hb⟩
end
section
variable {L:Lk} {g:Nat} {t:List Tk}
theorem apO (k:Int) (w:ae) (hR:Rd L g t w):Calls af 67 #[.pointer (ak ⟨g,0,aj⟩),.int .i64 k] w (TZ g k t w):=by
 have C1:=U (fun W (hW:av w.heap.size w W)=>zP W (hR.low (bT.of hW)));have C2:=U (fun W (hW:av w.heap.size w W)=>Cw W (hR.low (bT.of hW)));have hg:=hR.blk;have HR:=U hR;obtain⟨l1,l2,l3⟩:=hR.len;have l4:=hR.few;obtain⟨j,hj⟩:∃j,L.at t=j:=⟨_,rfl⟩
 obtain⟨x,hx⟩:∃x,hd t=x:=⟨_,rfl⟩
 unfold tv at C1;rw[hx] at C1 C2;have HX:=U hx;have HJ:=U hj;by_cases h:x.k=k
 · have hb:(x.k != k)=false:=by simp[h]
   have hw:IntKind.i64.wrap ((j:Int)+1)=(j:Int)+1:=by rw[IntKind.wrap_i64];omega
   have HK:=U h;clear hR l1 l2 l3 l4 hx hj h;go_enter func67,ntmps67;go_wp2_with fail;refine(C1.out _ bl).mono ?_;rintro e w1 ⟨rfl,hb1⟩;have hB1:av w.heap.size w w1:=bl;have b4:bX w1 w.heap.size 87 _:=bX.new.on hb1;have b5:bX (w1.alloc (.cells #[.int .i64 x.k,.string x.t,.int .i64 x.n,.int .i64 x.l] 87)) w1.heap.size 87 _:=bX.new;have hs1:=b4.lt;have r1:Rd L g t (w1.alloc (.cells #[.int .i64 x.k,.string x.t,.int .i64 x.n,.int .i64 x.l] 87)):=HR.out.low (bT.of bl);have c1:=r1.c1;rw[HJ.out] at c1;have f1:=r1.ny (i:=1);obtain⟨B,hB⟩:∃B,(w1.alloc (.cells #[.int .i64 x.k,.string x.t,.int .i64 x.n,.int .i64 x.l] 87)).setCell ⟨g,1,aj⟩ (.int .i64 ((j:Int)+1))=B:=⟨_,rfl⟩
   have e1:Bt g (w1.alloc (.cells #[.int .i64 x.k,.string x.t,.int .i64 x.n,.int .i64 x.l] 87)) B:=by rw[← hB];exact QJ
   have d5:bX B w1.heap.size 87 _:=fw b5 e1 bU;have d4:bX B w.heap.size 87 _:=fw (b4.on bl) e1 bU;have l0:=d5.get (r:=0) rfl;have l1:=d5.get (r:=1) rfl;have l2:=d5.get (r:=2) rfl;have l3:=d5.get (r:=3) rfl;have p0:=d4.get (r:=0) rfl;have p1:=d4.get (r:=1) rfl;have p2:=d4.get (r:=2) rfl;have p3:=d4.get (r:=3) rfl;have fz:∀i,B.frozen? ⟨w.heap.size,i,aj⟩=false:=fun i=>eu d4;have D4:=U d4;have HE:=U e1;have HB1:=U hB1;clear e1 r1 d5 d4 b5 b4 hB1 hb1;go_wp2_with fail;have b6:=mi (a:=.int .i64 x.k) (b:=.string x.t) (c:=.int .i64 x.n) (d:=.int .i64 x.l) D4.out rfl;have bZ:=HB1.out;have gH:=HE.out;refine bodyPost_ret (v:=tv x) ?_ rfl ⟨?_,.inl ⟨by rw[HX.out,HK.out],by rw[HX.out]⟩⟩
   · exact results_cell_row rfl _ _ w.heap.size 87 _ (0,0) _ rfl b6 underlying87 rfl dA
   · have q:Bt g w w1:=bT.of bZ;exact qe
 · exact zzc
theorem RO (w:ae) (hR:Rd L g t w):Calls af 32 #[.pointer (ak ⟨g,0,aj⟩)] w (PE g VU (run pz t) w):=by
 have HR:=U hR;have HN:Hid ((∀h:(hd t).k=0,run pz t=.ok () t.tail)/\(¬(hd t).k=0->run pz t=.no t)):=U ⟨fun h=>by unfold pz;rw[dN (tO h)];rfl,fun h=>by unfold pz;rw[eU (zO h)]⟩;clear hR;obtain⟨r,hr⟩:∃r,run pz t=r:=⟨_,rfl⟩
 rw[hr] at HN ⊢;clear hr;go_enter func32,ntmps32;go_wp2_with fail;refine(apO 0 _ HR.out).mono ?_;rintro e w1 ⟨hb,⟨hk,rfl⟩|⟨hk,rfl⟩⟩
 · have HB:=U hb;have HK:=U (HN.out.1 hk);clear hb hk;unfold tv;go_wp2_with fail
   (first|go_end0|refine bodyPost_ret (results_none rfl _ _ _) rfl ?_)
   exact PE.ok HK.out HB.out rfl
 · have HB:=U hb;have HK:=U (HN.out.2 hk);clear hb hk;go_wp2_with fail;exact⟨rfl,PE.no HK.out HB.out⟩
theorem amm (w:ae) (hR:Rd L g t w):Calls af 12 #[.pointer (ak ⟨g,0,aj⟩)] w (PE g VX (run rY t) w):=by
 obtain⟨r,hr⟩:∃r,run rY t=r:=⟨_,rfl⟩
 rw[hr];have HS:=U hr;have hg:=hR.blk;have HR:=U hR;have HB:Hid (Bt g w w):=U (bT.refl _ _);clear hR hr;have Z:=jR w;go_enter func12,ntmps12;go_wp2_with fail;have hz0:=Z.out.lt;refine(Be _ (HR.out.low qe)).mono ?_;rintro e w1 h1;rcases h1.cases with⟨x1,u1,v1,r1,rfl,b1,V1,R1⟩|⟨u1,r1,rfl,b1⟩
 rotate_left 1
 · exact afh
 replace HS:=fB HS r1;replace Z:=bV Z w1;replace HB:=dJ HB w1;replace HR:=U R1;clear b1 R1;clear r1 h1;obtain⟨p1,m1,c1,rfl,k1⟩:=V1;have eB:=jv k1 w.heap.size;clear k1;dsimp only [b_];have Y:=U (bX.new (w:=w1) (t:=26) (c:=b_ x1 p1 m1 c1));dsimp only [b_] at Y;have hz1:=Z.out.lt;go_wp2_with fail;refine(lF _ (HR.out.low qe)).mono ?_;rintro e w2 h2;rcases h2.cases with⟨x2,u2,v2,r2,rfl,b2,V2,R2⟩|⟨u2,r2,rfl,b2⟩
 rotate_left 1
 · have bZ:=HB.out;go_wp2_with fail;exact⟨rfl,PE.no (fI HS r2) qe⟩
 replace HS:=fB HS r2;replace Z:=bV Z w2;replace Y:=bV Y w2;replace eB:=U (ja (w2:=w2) eB.out qe);replace HB:=dJ HB w2;replace HR:=U R2;clear b2 R2;clear r2 h2;obtain rfl:=V2;go_wp2_with fail;refine(RO _ (HR.out.low qe)).mono ?_;rintro e w3 h3;rcases h3.cases with⟨x3,u3,v3,r3,rfl,b3,V3⟩|⟨u3,r3,rfl,b3⟩
 rotate_left 1
 · have bZ:=HB.out;go_wp2_with fail;exact⟨rfl,PE.no (fI HS r3) qe⟩
 replace HS:=fB HS r3;obtain rfl:=V3;replace Z:=bV Z w3;replace Y:=bV Y w3;replace eB:=U (ja (w2:=w3) eB.out qe);replace HB:=dJ HB w3;clear b3 r3 h3;obtain⟨l0,l1,l2,l3,-⟩:=df Y.out;obtain⟨y0,y1,y2,y3,fz⟩:=df Z.out;go_wp2_with fail;have bZ:=HB.out;refine bodyPost_ret (v:=.agg (b_ x1 p1 m1 c1)) ?_ rfl (PE.ok (dD HS) qe ⟨p1,m1,c1,rfl,?_⟩)
 · exact sJ
 · have KK:=eB.out;exact iQ KK qe
end
end Ps
namespace Ps
open Go.RowKit
section
variable {P:Program} {fn:Func} {p q u x:Tmp} {ty:TypeId}
theorem acn (h:fn.results=#[.cell p ty,.tmp u]) (tmps:Array ai) (w:ae) (g:Nat) (t:TypeId) (cs:Array ai) (fr:Nat×Nat) (d:TypeDesc) (hp:tmps.getD p undef=.pointer (ak ⟨g,0,aj⟩)) (hg:w.heap[g]?=ak (.cells cs t fr)) (hu:P.underlying ty=ak d) (hd:(match d with|.struct _|.array _ _=>true|_=>false)=true) (hi:(P.info? ty).map (·.size)=ak cs.size) {v1:ai} (e1:tmps.getD u undef=v1):(results fn tmps).run P w=.ok (.tuple #[.agg cs,v1]) w:=by
 have hp':tmps[p]?.getD undef=.pointer (ak ⟨g,0,aj⟩):=by simpa using hp
 subst e1;simp[results,h,hp',asAddr,run_loadVar_row w g t ty cs fr d hg hu hd hi]
theorem aco (h:fn.results=#[.cell p ty,.tmp u,.tmp x]) (tmps:Array ai) (w:ae) (g:Nat) (t:TypeId) (cs:Array ai) (fr:Nat×Nat) (d:TypeDesc) (hp:tmps.getD p undef=.pointer (ak ⟨g,0,aj⟩)) (hg:w.heap[g]?=ak (.cells cs t fr)) (hu:P.underlying ty=ak d) (hd:(match d with|.struct _|.array _ _=>true|_=>false)=true) (hi:(P.info? ty).map (·.size)=ak cs.size) {v1 v2:ai} (e1:tmps.getD u undef=v1) (e2:tmps.getD x undef=v2):(results fn tmps).run P w=.ok (.tuple #[.agg cs,v1,v2]) w:=by
 have hp':tmps[p]?.getD undef=.pointer (ak ⟨g,0,aj⟩):=by simpa using hp
 subst e1 e2;simp[results,h,hp',asAddr,run_loadVar_row w g t ty cs fr d hg hu hd hi]
theorem NP (h:fn.results=#[.cell p ty,.cell q 3,.tmp u]) (tmps:Array ai) (w:ae) (g k:Nat) (t:TypeId) (cs:Array ai) (fr:Nat×Nat) (d:TypeDesc) (v:ai) (hp:tmps.getD p undef=.pointer (ak ⟨g,0,aj⟩)) (hq:tmps.getD q undef=.pointer (ak ⟨k,0,aj⟩)) (hg:w.heap[g]?=ak (.cells cs t fr)) (hk:(loadVar 3 ⟨k,0,aj⟩).run P w=.ok v w) (hu:P.underlying ty=ak d) (hd:(match d with|.struct _|.array _ _=>true|_=>false)=true) (hi:(P.info? ty).map (·.size)=ak cs.size):(results fn tmps).run P w=.ok (.tuple #[.agg cs,v,tmps.getD u undef]) w:=by
 have hp':tmps[p]?.getD undef=.pointer (ak ⟨g,0,aj⟩):=by simpa using hp
 have hq':tmps[q]?.getD undef=.pointer (ak ⟨k,0,aj⟩):=by simpa using hq
 simp[results,h,hp',hq',asAddr,run_loadVar_row w g t ty cs fr d hg hu hd hi,hk]
end
theorem Gi {w:ae} {k:Nat} {v:ai} (h:w.cell? ⟨k,0,aj⟩=ak v):(loadVar 3 ⟨k,0,aj⟩).run af w=.ok v w:=by
 have hu:(underlying 3).run af w=.ok (.int .i64) w:=run_underlying dA w;have ha:(isAgg 3).run af w=.ok false w:=by
  unfold isAgg;rw[Sem.run_bind,hu];rfl
 simp[loadVar,Sem.run_bind,ha,go_sem,h]
end Ps
namespace Ps
open Go.RowKit
open Lx (Tk jg)
open Ex (Ex bW)
open Md (bX)
theorem ahm (p:Addr) (x n:Int) (older:List PanicEntry) (w:ae) (hc:w.cell? p=ak (.int .i64 x)) (hz:w.frozen? p=false):CallsD af 64 #[.pointer (ak p)] (.panicking ({ v:=.iface 120 (.agg #[.int .i64 n]),recovered:=false }::older)) w fun e u' w'=>e=.returned (.tuple #[])/\u'=.panicking ({ v:=.iface 120 (.agg #[.int .i64 n]),recovered:=true }::older)/\w'=(w.alloc (.cells #[.int .i64 n] 120)).setCell p (.int .i64 n):=by
 refine callsD_of_wpS func64 rfl fun c₀ cs hu=>?_;have xK:(Instr.typeAssert (Value.iface 120 (Value.agg #[Value.int IntKind.i64 n])) 20 120 true).run af w=.ok (.tuple #[.agg #[.int .i64 n],.bool true]) w:=by kernel_rfl
 have hlt:p.block<w.heap.size:=by
  exact WB
 have hbb:(w.alloc (.cells #[.int .i64 n] 120)).heap[p.block]?=w.heap[p.block]?:=by
  exact afd
 have h1:(w.alloc (.cells #[.int .i64 n] 120)).cell? ⟨w.heap.size,0,aj⟩=ak (.int .i64 n):=by rw[World.cell?_alloc_mark];rfl
 have h2:(w.alloc (.cells #[.int .i64 n] 120)).cell? p=ak (.int .i64 x):=(World.cell?_of_block hbb).trans hc;have h3:(w.alloc (.cells #[.int .i64 n] 120)).frozen? p=false:=by unfold World.frozen? at hz ⊢; rw[hbb];exact hz
 apply wpS_seq
 apply wpS_region
 simp[wpOpsS,go_sem,recoverD,hu,ntmps64,Exit.thenS,xK]
 apply wpS_seq
 apply wpS_region
 simp[wpOpsS,go_sem,Exit.thenS]
 refine wpS_cond (t:=true) Hq ?_;simp only[if_true]
 apply wpS_region
 simp[wpOpsS,go_sem,h1,h2,h3,bodyPostS,results,results64]
theorem ahl (p:Addr) (w:ae):CallsD af 64 #[.pointer (ak p)] .returning w fun e u' w'=>e=.returned (.tuple #[])/\u'=.returning/\w'=w.alloc (.cells #[.int .i64 0] 120):=by
 refine callsD_of_wpS func64 rfl fun c₀ cs hu=>?_;have xK:(Instr.typeAssert Value.nilIface 20 120 true).run af w=.ok (.tuple #[.agg #[.int .i64 0],.bool false]) w:=by kernel_rfl
 apply wpS_seq
 apply wpS_region
 simp[wpOpsS,go_sem,recoverD,hu,ntmps64,Exit.thenS,xK]
 apply wpS_seq
 apply wpS_region
 simp[wpOpsS,go_sem,Exit.thenS]
 refine wpS_cond (t:=false) Hq ?_;simp only[Bool.false_eq_true,if_false];refine wpS_of_wp (wp_skip ?_);cases c₀
 simp_all [bodyPostS,results,results64]
def FO {α:Type} (V:Nat->ae->α->ai->Prop) (z:ai) (r:R α) (w:ae) (e:Ending) (w':ae):Prop:=
 av w.heap.size w w'/\match r with
  | .ok x u=>∃v,e=.returned (.tuple #[v,.int .i64 0,.int .i64 0])/\V w.heap.size w' x v
  | .no u=>e=.returned (.tuple #[z,.int .i64 (hd u).l,.int .i64 9])
theorem lU {a w:ae} (h:bT (fun k=>k<a.heap.size) a w):av a.heap.size a w:=⟨h.os,h.tape,h.output,h.size,fun k hk=>h.block k hk hk⟩
section
variable {α:Type} {V:Nat->ae->α->ai->Prop} {z v:ai} {r:R α} {w w':ae} {e:Ending} {x:α} {u:List Tk}
theorem FO.ok (hr:r=.ok x u) (hb:av w.heap.size w w') (hV:V w.heap.size w' x v):FO V z r w (.returned (.tuple #[v,.int .i64 0,.int .i64 0])) w':=by subst hr;exact⟨hb,v,rfl,hV⟩
theorem FO.no (hr:r=.no u) (hb:av w.heap.size w w'):FO V z r w (.returned (.tuple #[z,.int .i64 (hd u).l,.int .i64 9])) w':=by subst hr;exact⟨hb,rfl⟩
theorem FO.cases (h:FO V z r w e w'):av w.heap.size w w'/\((∃x u v,r=.ok x u/\e=.returned (.tuple #[v,.int .i64 0,.int .i64 0])/\V w.heap.size w' x v)∨(∃u,r=.no u/\e=.returned (.tuple #[z,.int .i64 (hd u).l,.int .i64 9]))):=by
 obtain⟨hb,h⟩:=h;refine⟨hb,?_⟩
 cases r with
 | ok x u=>obtain⟨v,h1,h2⟩:=h;exact .inl ⟨x,u,v,rfl,h1,h2⟩
 | no u=>exact .inr ⟨u,rfl,h⟩
end
theorem Uc {L:Lk} {w W:ae} {g:Nat} (hW:W=w.alloc (.cells #[.slice (ak ⟨L.b,L.o,aj⟩) L.m L.c,.int .i64 0] 123)) (hg:g=w.heap.size) (hb:L.b<w.heap.size) (ht:jg w (ak ⟨L.b,L.o,aj⟩) L.m L.l) (hgd:Gd L.l) (ku:L.l.length<=30000):Rd L g L.l W:=by
 subst hW hg;have e:L.at L.l=0:=by unfold Lk.at;omega
 refine⟨hb,?_,by rw[e];rfl,ht.alloc,hgd,ku⟩;unfold Ub;rw[e];exact bX.new
theorem ajT (f:FuncId) (m:P Ex) (L:Lk) (w:ae) (hf:∀(a:Array ai) (W:ae),(callFunc f a).run af W=.ok (.enter f a) W) (ht:jg w (ak ⟨L.b,L.o,aj⟩) L.m L.l) (hgd:Gd L.l) (ku:L.l.length<=30000) (hC:∀g W,Rd L g L.l W->Calls af f #[.pointer (ak ⟨g,0,aj⟩)] W (PE g VX (run m L.l) W)):Calls af 29 #[.func (.func f) #[] #[],.slice (ak ⟨L.b,L.o,aj⟩) L.m L.c] w (FO VX (.agg #[.int .i64 0,.string ⟨#[]⟩,.int .i64 0,.slice aj 0 0]) (run m L.l) w):=by
 have HC:=U hC;have HT:=U ht;have HG:=U hgd;have HF:=U ku;obtain⟨r,hr⟩:∃r,run m L.l=r:=⟨_,rfl⟩
 rw[hr] at HC ⊢;clear hC ht hgd ku;have hmf:∀(fn:Fn) (first cap:Array ai) (w:ae),(Instr.makeFunc fn first cap).run af w=.ok (.func fn first cap) w:=fun _ _ _ _=>rfl;go_enter_defers func29,ntmps29
 go_wp2_with fail;have hlb:L.b<w.heap.size:=by
  exact Wz
 have z0:bX (w.alloc (.cells #[.int .i64 0,.string ⟨#[]⟩,.int .i64 0,.slice aj 0 0] 26)) w.heap.size 26 #[.int .i64 0,.string ⟨#[]⟩,.int .i64 0,.slice aj 0 0]:=bX.new;have n0:bX ((w.alloc (.cells #[.int .i64 0,.string ⟨#[]⟩,.int .i64 0,.slice aj 0 0] 26)).alloc (.cells #[.int .i64 0] 3)) (w.heap.size+1) 3 #[.int .i64 0]:=by
  have h:=bX.new (w:=w.alloc (.cells #[.int .i64 0,.string ⟨#[]⟩,.int .i64 0,.slice aj 0 0] 26)) (t:=3) (c:=#[.int .i64 0]);exact VW
 have Z:=U z0;have N:=U n0;have hzl:=z0.lt;have hnl:=n0.lt;clear z0 n0;refine(HC.out (w.heap.size+1+1) _ (Uc rfl cz vD (HT.out.alloc.alloc) HG.out HF.out)).mono ?_;rintro e w1 h1;rcases h1.cases with⟨x1,u1,v1,r1,rfl,b1,V1⟩|⟨u1,r1,rfl,b1⟩
 · have Z1:=U (cO (w2:=w1) Z.out qe);have N1:=U (cO (w2:=w1) N.out qe);have B1:Hid (bT (fun k=>k<w.heap.size) w w1):=U qe;have HK:=U r1;obtain⟨p1,m1,c1,rfl,k1⟩:=V1;have K1:Hid (bW (fun b=>w.heap.size+1<b) w1 x1 p1 m1):=U (k1.mono fun b hb hlt=>by
    have hb':_<=b:=hb;simp at hb'
    omega)
   dsimp only [b_];clear b1 h1 r1 k1 Z N;obtain⟨y0,y1,y2,y3,fz⟩:=df Z1.out;have q0:World.cell? _ ⟨_,0,aj⟩=ak (.int .i64 0):=N1.out.get rfl;have qz:∀i,World.frozen? _ ⟨_,i,aj⟩=false:=fun i=>eu (i:=i) N1.out;go_wp2_with fail;refine leaves_cons (f:=64) (args:=#[.pointer (ak ⟨w.heap.size+1,0,aj⟩)]) cz (by simp[go_sem]) ?_;refine(ahl _ _).mono ?_;rintro e u' w'' ⟨rfl,rfl,rfl⟩;have BB:=B1.out;refine⟨_,NP rfl _ _ w.heap.size (w.heap.size+1) 26 (b_ x1 p1 m1 c1) (0,0) _ (.int .i64 0) rfl rfl ?_ (Gi ?_) underlying26 rfl dA,?_⟩
   · exact cO (mi Z1.out rfl) qe
   · have N4:=eX (i:=0) (v:=.int .i64 0) (cO (w2:=((((w1.setCell ⟨w.heap.size,0,aj⟩ (.int .i64 x1.o)).setCell ⟨w.heap.size,1,aj⟩ (.string x1.s)).setCell ⟨w.heap.size,2,aj⟩ (.int .i64 x1.n)).setCell ⟨w.heap.size,3,aj⟩ (.slice p1 m1 c1))) N1.out qe);exact(cO N4 qe).get (r:=0) rfl
   · have q:∀W,bT (fun b=>w.heap.size+1<b) w1 W->bW (fun b=>w.heap.size<=b) W x1 p1 m1:=fun W q=>Ex.bW.map q.size (fun b hb hlt=>⟨by show w.heap.size<=b;have hb':w.heap.size+1<b:=hb;omega,q.block b hlt hb⟩) _ K1.out;exact FO.ok HK.out (lU qe) ⟨p1,m1,c1,rfl,q _ qe⟩
 · have Z1:=U (cO (w2:=w1) Z.out qe);have N1:=U (cO (w2:=w1) N.out qe);have B1:Hid (bT (fun k=>k<w.heap.size) w w1):=U qe;have HK:=U r1;clear b1 h1 r1 Z N;go_wp2_with fail;refine leaves_cons (f:=64) (args:=#[.pointer (ak ⟨w.heap.size+1,0,aj⟩)]) cz (by simp[go_sem]) ?_;refine(ahm _ 0 (hd u1).l [] _ (N1.out.get rfl) (eu N1.out)).mono ?_;rintro e u' w'' ⟨rfl,rfl,rfl⟩;refine⟨_,NP rfl _ _ w.heap.size (w.heap.size+1) 26 #[.int .i64 0,.string ⟨#[]⟩,.int .i64 0,.slice aj 0 0] (0,0) _ (.int .i64 (hd u1).l) rfl rfl ?_ (Gi ?_) underlying26 rfl dA,?_⟩
   · exact cO Z1.out qe
   · exact WC
   · exact afn
end Ps
namespace Lx
open Nu
open Go.RowKit
theorem Eh (m:List Tk) (x:Tk):opn (m++[x])=decide (x.k≠4):=by unfold opn;rw[List.getLast?_concat]
theorem ajm (m:List Tk) (x:Tk) (n:Nat) (h:x.k=4):iD (m++[x]) n=m++[x]:=by unfold iD;rw[Eh,if_neg (by simp[h])]
theorem ajn (m:List Tk) (x:Tk) (n:Nat) (h:¬x.k=4):iD (m++[x]) n=m++[x]++[⟨4,mt,0,(n:Int)⟩]:=by unfold iD;rw[Eh,if_pos (by simp[h])]
theorem FQ (a:List Tk) (n:Nat):(iD a n).length<=a.length+1:=by
 unfold iD
 split
 · simp
 · omega
def CV (lo:Nat) (v:ai) (l:List Tk) (w:ae) (e:Ending) (w':ae):Prop:=∃v',e=.returned v'/\Own lo w' v' l/\w.grownBy w' v.ownBlock
theorem CV.same {lo:Nat} {v:ai} {l:List Tk} {w:ae} (h:Own lo w v l):CV lo v l w (.returned v) w:=⟨v,rfl,h,⟨rfl,rfl,rfl,ag _,fun _ _ _=>rfl⟩⟩
theorem DK {w w':ae} {o:Obj} {row:Option Nat} (h:(w.alloc o).grownBy w' row):w.grownBy w' row:=((World.grownBy_alloc w o aj).but row).trans h
theorem Zm {lo:Nat} {v:ai} {l:List Tk} (n:Nat) (w:ae) (ho:Own lo w v l) (hlo:lo<=w.heap.size) (hl:l.length<=1000000):Calls af 63 #[v,.int .i64 (n:Int)] w (CV lo v (iD l n) w):=by
 obtain⟨p,c,rfl,hT,hc,hp⟩:=AU ho;rcases List.eq_nil_or_concat l with rfl|⟨m,x,rfl⟩
 · have HG:=U (CV.same ho);clear hT hp ho;go_enter func63,ntmps63;go_wp2_with fail;go_ret;exact HG.out
 · rw[List.concat_eq_append] at *
   obtain⟨-,-,h0|⟨b,o,rfl,hb,hcell⟩⟩:=hT
   · rw[au] at h0;simp at h0
   · have hx:=hcell.out m.length cz;rw[List.getElem_concat_length rfl] at hx;have e1:=hx.1;obtain⟨N,hN⟩:∃N,(m++[x]).length=N:=⟨_,rfl⟩
     have hN1:m.length+1=N:=by rw[← hN,au];rfl
     have ho':=ho;have hl':=hl;rw[hN] at hc hl;obtain⟨M,hM⟩:∃M,m.length=M:=⟨_,rfl⟩
     rw[hM] at e1 hN1;have c0:((N:Int)==0)=false:=by rw[beq_eq_false_iff_ne];omega
     have c1:(N:Int)-1=(M:Int):=by omega
     have c2:(0:Int)<=(M:Int):=by omega
     have c3:(M:Int)<(N:Int):=by omega
     by_cases hk:x.k=4
     · rw[hk] at e1;have HG:Hid (CV lo _ (iD (m++[x]) n) w _ w):=U (by rw[ajm m x n hk];exact CV.same ho);rw[hN] at HG;rw[hN];clear ho ho' hx hcell hN hM hp hk;go_enter func63,ntmps63;go_wp2_with fail;go_ret;exact HG.out
     · have q1:(x.k==4)=false:=beq_eq_false_iff_ne.2 hk;have hB:av w.heap.size w (w.alloc (.cells #[.int .i64 4,.string ⟨#[]⟩,.int .i64 0,.int .i64 (n:Int)] 87)):=iw (ax _ _);obtain⟨v2,w2,hrun,ho2,hg2⟩:=Ih (own_below ho hB) cz (xV (w:=w) (x:=⟨4,mt,0,(n:Int)⟩) (t:=87)) hl' (by have:=hB.size;omega);have HG:Hid (CV lo _ (iD (m++[x]) n) w (.returned v2) w2):=U (by rw[ajn m x n hk];exact⟨v2,rfl,ho2,DK hg2⟩);rw[hN] at HG hrun;rw[hN];clear ho ho' hx hcell hN hM hp hk ho2 hg2 hB;go_enter func63,ntmps63;go_wp2_with (at_builtin;refine Lib.wpList_append_run _ rfl _ _ _ _ rfl _ _ rfl rfl _ _ hrun ?_)
       go_ret;exact HG.out
end Lx
namespace Lx
open Nu
open Go.RowKit
theorem ait {c:UInt8} (h:dY c=true):c.toNat<128:=by have:=FF h;omega
theorem aqi {c:UInt8} (h:iU c=true):c.toNat<128:=by
 unfold iU vk gM gV at h;simp only[Bool.or_eq_true,Bool.and_eq_true,decide_eq_true_eq] at h;omega
theorem acY {l:List UInt8} (h:fZ l=true):∀c∈l,c.toNat<128:=by
 exact Wt
theorem aaD {c:UInt8} (h:gL c=false):c.toNat=10:=by
 unfold gL BL at h;by_cases h7:((c.toNat:Nat):Int)=10
 · omega
 · rw[decide_eq_false h7] at h;cases h
theorem ajW {l:List UInt8} {x:Tk} {k:Nat} (h:iN l=ak (x,k)):∀c∈l.take k,c.toNat<128:=by
 unfold iN at h;by_cases h1:dm gq l=0
 · rw[if_pos h1] at h;by_cases h2:dm dY l=0
   · rw[if_pos h2] at h;by_cases h3:2<=l.length/\fZ (l.take 2)=true
     · rw[if_pos h3] at h;cases h;exact acY h3.2
     · rw[if_neg h3] at h;by_cases h4:fZ (l.take 1)=true
       · rw[if_pos h4] at h;cases h;exact acY h4
       · rw[if_neg h4] at h;cases h
   · rw[if_neg h2] at h
     split at h
     · cases h;exact fun c hc=>ait (ac5 c hc)
     · cases h
 · rw[if_neg h1] at h;cases h
   exact fun c hc=>aqi (ac5 c hc)
def Qm (s:ByteArray) (pos bh:Nat):Prop:=∀p,pos<=p->p<bh->p<s.size->p+(Utf8.decode s p).2<=bh
theorem ao3 {s:ByteArray} {pos bh:Nat} (h:∀p,pos<=p->p<bh->(g:p<s.size)->(s[p]'g).toNat<128):Qm s pos bh:=by
 intro p h1 h2 g;rw[decode_ascii s p g (h p h1 h2 g)];exact h2
theorem azo {p:Prop} (h:p:=by omega):p:=h
theorem ao4 {s:ByteArray} {pos bh:Nat} (hb:bh<=s.size) (h:(g:bh<s.size)->(s[bh]'g).toNat<128):Qm s pos bh:=by
 intro p h1 h2 g;obtain⟨m1,m2,m3⟩:=BC s p g;rcases Nat.lt_or_ge bh (p+(Utf8.decode s p).2) with h3|h3
 · exfalso
   have hlt:bh<s.size:=by omega
   obtain⟨j,rfl⟩:∃j,bh=p+j:=⟨bh-p,by omega⟩
   have:=m3 j azo azo hlt;have:=h hlt;omega
 · exact h3
structure qG (s:ByteArray) (R:dx) (pos bh q n:Nat) (a:List Tk):Prop where
 hpos:pos<=s.size
 I9:bh<=s.size
 hq:(bh<=pos/\q=pos)∨(pos<bh/\q=bh)
 skip:Qm s pos bh
 rest:eG ((bs s).drop q) a n=R
 len:a.length<=q
 line:n<=q+1
theorem aoJ (s:ByteArray):qG s (eG (bs s) [] 1) 0 0 0 1 []:=⟨Nat.zero_le _,Nat.zero_le _,.inl ⟨ag _,rfl⟩,fun p _ h=>absurd h (Nat.not_lt_zero _),by rw[List.drop_zero],ag _,ag _⟩
theorem qG.am1 {s:ByteArray} {R:dx} {pos bh q n:Nat} {a:List Tk} (h:qG s R pos bh q n a):q<=s.size:=by have:=h.hq;have:=h.hpos;have:=h.I9;omega
theorem aoF {s:ByteArray} {R:dx} {pos bh q n:Nat} {a:List Tk} (h:qG s R pos bh q n a) (hp:¬pos<s.size):R=⟨a,n,false⟩:=by
 have h1:=h.hq;have h2:=h.I9;have hq:s.size<=q:=by omega
 rw[← h.rest,List.drop_eq_nil_of_le (by rw[eF];exact hq)];rfl
theorem aoI {s:ByteArray} {R:dx} {pos bh q n:Nat} {a:List Tk} (h:qG s R pos bh q n a) (hp:pos<s.size) (hb:pos<bh):qG s R (pos+(Utf8.decode s pos).2) bh q n a:=by
 obtain⟨m1,m2,-⟩:=BC s pos hp;have hs:=h.skip pos (ag _) hb hp;have hq:=h.hq;exact⟨m2,h.I9,by omega,fun p h1 h2=>h.skip p azo h2,h.rest,h.len,h.line⟩
theorem drop_at {s:ByteArray} {pos:Nat} (hp:pos<s.size):(bs s).drop pos=s[pos]::(bs s).drop (pos+1):=by
 rw[List.drop_eq_getElem_cons (by rw[eF];exact hp)];rfl
theorem Ui {s:ByteArray} {pos r:Nat} (hp:pos<s.size) (hr:(Utf8.decode s pos).1=r) (h:r<128):s[pos].toNat=r/\(Utf8.decode s pos).2=1:=by
 by_cases ha:(s[pos]'hp).toNat<128
 · rw[decode_ascii s pos hp ha] at hr ⊢; exact⟨hr,rfl⟩
 · have:=(decode_high s pos hp azo).1;omega
theorem Oq {c:UInt8} {n:Nat} (h:c.toNat=n) (hn:n<256):c=UInt8.ofNat n:=by
 apply UInt8.toNat_inj.1
 rw[UInt8.toNat_ofNat',h];omega
theorem aoE {s:ByteArray} {R:dx} {pos bh q n:Nat} {a:List Tk} (h:qG s R pos bh q n a) (hp:pos<s.size) (hb:¬pos<bh) {r:Nat} (hr:(Utf8.decode s pos).1=r) (h2:r=32∨r=9):qG s R (pos+(Utf8.decode s pos).2) bh (pos+1) n a:=by
 obtain⟨e1,e2⟩:=Ui hp hr azo;have hq:=h.hq;obtain rfl:q=pos:=by omega
 rw[e2];refine⟨by omega,h.I9,.inl ⟨by omega,rfl⟩,fun p g1 g2=>by omega,?_,by have:=h.len;omega,by have:=h.line;omega⟩;rw[← h.rest,drop_at hp,abv];rcases h2 with rfl|rfl
 · exact .inl (Oq e1 bS)
 · exact .inr (Oq e1 bS)
theorem aoH {s:ByteArray} {R:dx} {pos bh q n:Nat} {a:List Tk} (h:qG s R pos bh q n a) (hp:pos<s.size) (hb:¬pos<bh) (hr:(Utf8.decode s pos).1=35):qG s R (pos+(Utf8.decode s pos).2) (pos+dm gL ((bs s).drop pos)) (pos+dm gL ((bs s).drop pos)) n a:=by
 obtain⟨e1,e2⟩:=Ui hp hr azo;have hq:=h.hq;obtain rfl:q=pos:=by omega
 have ec:s[q]=35:=Oq e1 bS;have hd:=drop_at hp;rw[ec] at hd;have h1:=yw (p:=gL) (t:=(bs s).drop (q+1)) F8;rw[← hd] at h1;have h3:=qY gL ((bs s).drop q);rw[List.length_drop,eF] at h3;rw[e2];refine⟨by omega,by omega,?_,?_,?_,by have:=h.len;omega,by have:=h.line;omega⟩
 · by_cases g:dm gL ((bs s).drop q)=1
   · rw[g];exact .inl ⟨ag _,rfl⟩
   · exact .inr ⟨by omega,rfl⟩
 · refine ao4 azo fun g=>?_;have h4:=Ux (p:=gL) (l:=(bs s).drop q) (by rw[List.length_drop,eF];omega);rw[List.getElem_drop] at h4;have h5:gL (s[q+dm gL ((bs s).drop q)]'g)=false:=h4;have h6:=aaD h5;omega
 · rw[← h.rest];exact afa
theorem aoG {s:ByteArray} {R:dx} {pos bh q n:Nat} {a:List Tk} (h:qG s R pos bh q n a) (hp:pos<s.size) (hb:¬pos<bh) (hr:(Utf8.decode s pos).1=10):qG s R (pos+(Utf8.decode s pos).2) bh (pos+1) (n+1) (iD a n):=by
 obtain⟨e1,e2⟩:=Ui hp hr azo;have hq:=h.hq;obtain rfl:q=pos:=by omega
 have ec:s[q]=10:=Oq e1 bS;rw[e2];refine⟨by omega,h.I9,.inl ⟨by omega,rfl⟩,fun p g1 g2=>by omega,?_,by have:=h.len;have:=FQ a n;omega,by have:=h.line;omega⟩;rw[← h.rest,drop_at hp,ec,abw]
theorem apY {s:ByteArray} {pos r:Nat} (hp:pos<s.size) (hr:(Utf8.decode s pos).1=r) (h1:¬r=32) (h2:¬r=9) (h3:¬r=35) (h4:¬r=10):Cm s[pos]:=by
 have key:∀m:Nat,m<128->s[pos]=UInt8.ofNat m->r=m:=by
  intro m hm e;have e1:s[pos].toNat=m:=by rw[e,UInt8.toNat_ofNat'];omega
  rw[decode_ascii s pos hp azo] at hr;rw[← hr];exact e1
 exact⟨fun g=>g.elim (fun e=>h1 (key 32 azo e)) (fun e=>h2 (key 9 azo e)),fun e=>h3 (key 35 azo e),fun e=>h4 (key 10 azo e)⟩
theorem aoK {s:ByteArray} {R:dx} {pos bh q n:Nat} {a:List Tk} (h:qG s R pos bh q n a) (hp:pos<s.size) (hb:¬pos<bh) (ht:Cm s[pos]) {x:Tk} {k:Nat} (e:iN ((bs s).drop pos)=ak (x,k)):pos+k<=s.size/\qG s R (pos+(Utf8.decode s pos).2) (pos+k) (pos+k) n (a++[su x n]):=by
 have hq:=h.hq;obtain rfl:q=pos:=by omega
 obtain⟨k1,k2⟩:=DJ e;have hlow:=ajW e;rw[List.length_drop,eF] at k2;have hl2:∀p,q<=p->p<q+k->(g:p<s.size)->(s[p]'g).toNat<128:=by
  intro p g1 g2 g;refine hlow _ ?_;have:(s[p]'g)=((bs s).drop q)[p-q]'(by rw[List.length_drop,eF];omega):=by
   rw[List.getElem_drop];have e3:q+(p-q)=p:=by omega
   simp only[e3];rfl
  rw[this];rw[List.mem_take_iff_getElem];exact⟨p-q,by rw[List.length_drop,eF];omega,rfl⟩
 have hd:=drop_at hp;have e2:(Utf8.decode s q).2=1:=by rw[decode_ascii s q hp (hl2 q (ag _) azo hp)]
 rw[e2];refine⟨by omega,by omega,by omega,?_,ao3 fun p g1 g2 g=>hl2 p azo g2 g,?_,by rw[au];have:=h.len;simp;omega,by have:=h.line;omega⟩
 · by_cases g:k=1
   · subst g;exact .inl ⟨ag _,rfl⟩
   · exact .inr ⟨by omega,rfl⟩
 · rw[← h.rest];rw[hd] at e ⊢;rw[abx ht e,← hd,List.drop_drop]
theorem aoD {s:ByteArray} {R:dx} {pos bh q n:Nat} {a:List Tk} (h:qG s R pos bh q n a) (hp:pos<s.size) (hb:¬pos<bh) (ht:Cm s[pos]) (e:iN ((bs s).drop pos)=aj):R=⟨a,n,true⟩:=by
 have hq:=h.hq;obtain rfl:q=pos:=by omega
 rw[← h.rest];rw[drop_at hp] at e ⊢;exact abu ht e
theorem amG {lo:Nat} {w:ae} {v:ai} {l:List Tk} {k:Nat} {s:ByteArray} {pos:Nat} (ho:Own lo w v l) (hk:w.heap[k]?=ak (.stringIter s pos)) (pos':Nat):Own lo (w.iterAt k s pos') v l:=by
 refine World.ownsRow.kept ho (row:=ak k) ⟨rfl,rfl,rfl,by rw[Lib.iterAt_size];exact ag _,fun j _ hj=>Lib.iterAt_other w k j s pos' (fun e=>hj (by rw[e]))⟩ ?_;rcases ho.2 with⟨rfl,h0⟩|⟨g,cap,cur,rfl,hgg,FZ,-⟩
 · exact .inl rfl
 · refine .inr fun e=>?_;simp[Value.ownBlock] at e
   subst e;rw[hk] at FZ;cases FZ
def WX (w:ae) (R:dx) (e:Ending) (w':ae):Prop:=∃v,e=.returned (.tuple #[v,.int .i64 (R.n:Int),.bool R.bad])/\Own w.heap.size w' v R.a/\av w.heap.size w w'
theorem acW {w w':ae} {R:dx} {a:List Tk} {n:Nat} {b:Bool} {v:ai} {e:Ending} (h:R=⟨a,n,b⟩) (he:e=.returned (.tuple #[v,.int .i64 (n:Int),.bool b])) (ho:Own w.heap.size w' v a) (hb:av w.heap.size w w'):WX w R e w':=by
 subst h;exact⟨v,he,ho,hb⟩
structure uj (w:ae) (s:ByteArray) (pos:Nat) (v:ai) (a:List Tk) (wr:ae):Prop where
 own:Own w.heap.size wr v a
 iter:wr.heap[w.heap.size]?=ak (.stringIter s pos)
 below:av w.heap.size w wr
theorem uj.next {w wr:ae} {s:ByteArray} {pos:Nat} {v:ai} {a:List Tk} (h:uj w s pos v a wr) (pos':Nat):uj w s pos' v a (wr.iterAt w.heap.size s pos'):=
 ⟨amG h.own h.iter pos',Lib.iterAt_heap wr _ s pos pos' h.iter,Lib.below_iterAt h.below (ag _) s pos'⟩
theorem uj.call {w wr w2:ae} {s:ByteArray} {pos:Nat} {v:ai} {a:List Tk} (h:uj w s pos v a wr) (hb:av wr.heap.size wr w2):uj w s pos v a w2:=
 ⟨own_below h.own hb,(hb.block _ (Array.getElem?_eq_some_iff.1 h.iter).1).trans h.iter,sQ h.below hb⟩
theorem uj.grew {w wr w2:ae} {s:ByteArray} {pos:Nat} {v v2:ai} {a a2:List Tk} (h:uj w s pos v a wr) (ho:Own w.heap.size w2 v2 a2) (hg:wr.grownBy w2 v.ownBlock):uj w s pos v2 a2 w2:=
 ⟨ho,ak4 h.own hg h.iter,below_grown h.below h.below.size h.own hg⟩
theorem uj.start (w:ae) (s:ByteArray):uj w s 0 (.slice aj 0 0) [] (w.iter s 0):=⟨World.ownsRow_nil _ _ _ _,World.iter_heap w s 0,iw (ax _ _)⟩
theorem azw {p:Prop} (h:p:=by
 go_wp2_with fail;go_roundw
 case rel=>exact⟨pos+m,b,pos+1,n,a,rfl,rfl,rfl,ug,HX.out⟩
 case measure=>
  have h5:w2.iterPos w.heap.size=pos+m:=by simp[World.iterPos,HX.out.iter]
  rw[h5,hpi];omega
 ):p:=h
theorem aoC (s:ByteArray) (w:ae) (hs:s.size<=20000) (hE:Env w):Calls af 62 #[.string s] w (WX w (eG (bs s) [] 1)):=by
 have hs':(s.size:Int)<=20000:=by omega
 have H_:=U (aoJ s);obtain⟨R,hR⟩:∃R,eG (bs s) [] 1=R:=⟨_,rfl⟩
 rw[hR] at H_;rw[hR];clear hR;have gH:Hid (Env w):=U hE;clear hE;go_enter func62,ntmps62;go_wp2_with fail
 go_step3
 go_wp2_with fail
 go_step3
 go_wp2_with fail;go_loopw [5,6,7,8] (fun v ln wg bh wr=>∃pos b q n:Nat,∃a:List Tk,ln=.int .i64 (n:Nat)/\wg=.bool false/\bh=.int .i64 (b:Nat)/\Hid (qG s R pos b q n a)/\uj w s pos v a wr) (fun v ln wg bh wr=>s.size-wr.iterPos w.heap.size)
 case atStart=>exact⟨0,0,0,1,[],rfl,rfl,rfl,H_,uj.start w s⟩
 case round=>
  obtain⟨pos,b,q,n,a,rfl,rfl,rfl,HS,HW⟩:=hrel;have uh:=U HW;have hit:=HW.iter;clear HW;by_cases hp:pos<s.size
  · have hnx:=fun ty=>Lib.run_next_any_at (P:=af) wr w.heap.size s pos ty hit hp;have HW2:=uh.out.next (pos+(Utf8.decode s pos).2)
    obtain⟨r,hr⟩:∃r,(Utf8.decode s pos).1=r:=⟨_,rfl⟩
    obtain⟨m,hm⟩:∃m,(Utf8.decode s pos).2=m:=⟨_,rfl⟩
    obtain⟨m1,m2,-⟩:=BC s pos hp;rw[hm] at m1 m2 HW2;simp only[hr,hm] at hnx;obtain⟨w2,hw2⟩:∃w2,wr.iterAt w.heap.size s (pos+m)=w2:=⟨_,rfl⟩
    rw[hw2] at HW2;simp only[hw2] at hnx;have HX:=U HW2;have hpi:wr.iterPos w.heap.size=pos:=by simp[World.iterPos,hit]
    clear HW2 hw2;by_cases hb:pos<b
    · have c1:decide ((pos:Int)<(b:Int))=true:=decide_eq_true azo;have c2:(pos:Int)<(b:Int):=by omega
      have HS2:=aoI HS.out hp hb;rw[hm] at HS2;have ug:=U HS2;clear HS2 HS hr hm uh hit;go_wp2_with fail;go_roundw
      case rel=>exact⟨pos+m,b,q,n,a,rfl,rfl,rfl,ug,HX.out⟩
      case measure=>
       have h5:w2.iterPos w.heap.size=pos+m:=by simp[World.iterPos,HX.out.iter]
       rw[h5,hpi];omega
    · have c1:decide ((pos:Int)<(b:Int))=false:=decide_eq_false azo;have p0:(0:Int)<=(pos:Int):=by omega
      have p1:(pos:Int)<=(s.size:Int):=by omega
      have hTs:(s.extract pos s.size).size<=20000:=by rw[ByteArray.size_extract];omega
      have zm:bs (s.extract pos s.size)=(bs s).drop pos:=by rw[adh,rD]
      have p2:(pos:Int)<=20000:=by omega
      by_cases r1:r=32∨r=9
      · have HS2:=aoE HS.out hp hb hr r1;rw[hm] at HS2;have ug:=U HS2;have q32:((r:Int)==32)=true∨(((r:Int)==32)=false/\((r:Int)==9)=true):=by
         rcases r1 with rfl|rfl
         · exact .inl bS
         · exact .inr ⟨by decide,by decide⟩
        clear HS2 HS hr hm uh hit hTs zm r1;rcases q32 with q32|⟨q32,q9⟩
        · exact azw
        · exact azw
      have q32:((r:Int)==32)=false:=by rw[beq_eq_false_iff_ne];omega
      have q9:((r:Int)==9)=false:=by rw[beq_eq_false_iff_ne];omega
      by_cases r2:r=35
      · have HS2:=aoH HS.out hp hb (hr.trans r2);rw[hm,← zm] at HS2;have q35:((r:Int)==35)=true:=by rw[r2];decide
        have I1:=ao6 (s.extract pos s.size) w2 azo;have hK:=qY gL (bs (s.extract pos s.size));rw[eF] at hK;obtain⟨K,eK⟩:∃K,dm gL (bs (s.extract pos s.size))=K:=⟨_,rfl⟩
        rw[eK] at I1 HS2 hK;have k0:(0:Int)<=(K:Int):=by omega
        have k1:(K:Int)<=20000:=by omega
        have ug:=U HS2;clear HS2 HS hr hm uh hit hTs zm r1 r2 eK hK;go_wp2_with fail;refine I1.mono ?_;rintro e w3 ⟨rfl,hb3⟩;have iX:=U (HX.out.call hb3);go_wp2_with fail;go_roundw
        case rel=>exact⟨pos+m,pos+K,pos+K,n,a,rfl,rfl,by go_num,ug,iX.out⟩
        case measure=>
         have h5:w3.iterPos w.heap.size=pos+m:=by simp[World.iterPos,iX.out.iter]
         rw[h5,hpi];omega
      have q35:((r:Int)==35)=false:=by rw[beq_eq_false_iff_ne];omega
      have hal:a.length<=20000/\n<=20001:=by have:=HS.out.len;have:=HS.out.line;have:=HS.out.am1;omega
      have n0:(0:Int)<=(n:Int):=by omega
      have n1:(n:Int)<=20001:=by omega
      by_cases r3:r=10
      · have HS2:=aoG HS.out hp hb (hr.trans r3);rw[hm] at HS2;have wP:((r:Int)==10)=true:=by rw[r3];decide
        have ug:=U HS2;have I1:=Zm n w2 HX.out.own HX.out.below.size azo;clear HS2 HS hr hm uh hit hTs zm r1 r2 r3;go_wp2_with fail;refine I1.mono ?_;rintro e w3 ⟨v3,rfl,ho3,hg3⟩;have iX:=U (HX.out.grew ho3 hg3);clear ho3 hg3;go_wp2_with fail;go_roundw
        case rel=>exact⟨pos+m,b,pos+1,n+1,iD a n,by go_num,rfl,rfl,ug,iX.out⟩
        case measure=>
         have h5:w3.iterPos w.heap.size=pos+m:=by simp[World.iterPos,iX.out.iter]
         rw[h5,hpi];omega
      have wP:((r:Int)==10)=false:=by rw[beq_eq_false_iff_ne];omega
      have ht:=apY hp hr (fun e=>r1 (.inl e)) (fun e=>r1 (.inr e)) r2 r3;have I1:=ajG (s.extract pos s.size) w2 azo (gH.out.below HX.out.below);rw[zm] at I1
      cases hf:iN ((bs s).drop pos) with
      | none=>
       have HR:=U (aoD HS.out hp hb ht hf);rw[hf] at I1;clear HS hr hm uh hit hTs zm r1 r2 r3 ht hf hal;go_wp2_with fail;refine I1.mono ?_;rintro e w3 ⟨x,k,rfl,hb3,⟨h1,h2⟩|⟨-,rfl⟩⟩
       · cases h1
       have iX:=U (HX.out.call hb3);go_wp2_with fail;go_ret3
       exact acW HR.out rfl (own_below iX.out.own afw) (by have:=iX.out.below;(repeat (first|(with_reducible exact ax _ _)|(with_reducible assumption)|(with_reducible apply iw)|(with_reducible apply vN)|(with_reducible apply rC)|(with_reducible refine zf ?_ (by first|(simp;done)|(simp;omega)) _)|(with_reducible refine sQ ?_ (by assumption)))))
      | some y=>
       obtain⟨x,k⟩:=y;obtain⟨hk2,HS2⟩:=aoK HS.out hp hb ht hf;rw[hm] at HS2;have ug:=U HS2;rw[hf] at I1;obtain⟨hk1,-⟩:=DJ hf;clear HS2 HS hr hm uh hit hTs zm r1 r2 r3 ht hf;go_wp2_with fail;refine I1.mono ?_;rintro e w3 ⟨x',k',rfl,hb3,⟨h1,h2⟩|⟨h1,-⟩⟩
       · simp only[Option.some.injEq,Prod.mk.injEq] at h1;obtain⟨rfl,rfl⟩:=h1;have kz:((k:Int)==0)=false:=by rw[beq_eq_false_iff_ne];omega
         have k0:(0:Int)<=(k:Int):=by omega
         have k1:(pos:Int)+(k:Int)<=20000:=by omega
         have iX:=U (HX.out.call hb3);have hB:av w3.heap.size w3 ((w3.alloc (.cells #[.int .i64 x.k,.string x.t,.int .i64 x.n,.int .i64 (n:Int)] 87)).alloc (.cells #[.int .i64 x.k,.string x.t,.int .i64 x.n,.int .i64 (n:Int)] 87)):=iw (iw (ax _ _));have mF:=xV (w:=w3.alloc (.cells #[.int .i64 x.k,.string x.t,.int .i64 x.n,.int .i64 (n:Int)] 87)) (x:=su x n) (t:=87);rw[show(w3.alloc (.cells #[.int .i64 x.k,.string x.t,.int .i64 x.n,.int .i64 (n:Int)] 87)).heap.size=w3.heap.size+1 by simp] at mF;obtain⟨v4,w4,hrun,F5,hg4⟩:=Ih (own_below iX.out.own hB) cz mF azo (by have:=hB.size;have:=iX.out.below.size;omega);have Lr:=U (iX.out.grew F5 (DK (DK hg4)));clear hB mF F5 hg4;go_wp2_with (at_builtin;refine Lib.wpList_append_run _ rfl _ _ _ _ rfl _ _ rfl rfl _ _ hrun ?_)
         go_roundw
         case rel=>exact⟨pos+m,pos+k,pos+k,n,a++[su x n],rfl,rfl,by go_num,ug,Lr.out⟩
         case measure=>
          have h5:w4.iterPos w.heap.size=pos+m:=by simp[World.iterPos,Lr.out.iter]
          rw[h5,hpi];omega
       · cases h1
  · have hnx:=fun ty=>Lib.run_next_end_at (P:=af) wr w.heap.size s pos ty hit hp;have HR:=U (aoF HS.out hp);clear hit HS;go_wp2_with fail;go_ret3
    exact acW HR.out rfl uh.out.own uh.out.below
end Lx
namespace Lx
open Nu
open Go.RowKit
def fin (R:dx):List Tk:=iD R.a R.n++[⟨0,mt,0,(R.n:Int)⟩]
def gu (l:List UInt8):List Tk:=if 20000<l.length then [] else if (eG l [] 1).bad=true then [] else fin (eG l [] 1)
def kL (l:List UInt8):Nat:=if 20000<l.length then 0 else if (eG l [] 1).bad=true then (eG l [] 1).n else 0
def gF (l:List UInt8):Int:=if 20000<l.length then 6 else if (eG l [] 1).bad=true then 8 else 0
theorem Km {l:List UInt8} (h:20000<l.length):gu l=[]/\kL l=0/\gF l=6:=by unfold gu kL gF;rw[if_pos h,if_pos h,if_pos h];exact⟨rfl,rfl,rfl⟩
theorem Kk {l:List UInt8} (h:¬20000<l.length) (g:(eG l [] 1).bad=true):gu l=[]/\kL l=(eG l [] 1).n/\gF l=8:=by unfold gu kL gF;rw[if_neg h,if_neg h,if_neg h,if_pos g,if_pos g,if_pos g];exact⟨rfl,rfl,rfl⟩
theorem Kl {l:List UInt8} (h:¬20000<l.length) (g:(eG l [] 1).bad=false):gu l=fin (eG l [] 1)/\kL l=0/\gF l=0:=by unfold gu kL gF;rw[if_neg h,if_neg h,if_neg h,if_neg (by simp[g]),if_neg (by simp[g]),if_neg (by simp[g])];exact⟨rfl,rfl,rfl⟩
def uk (w:ae) (l:List Tk) (n:Nat) (x:Int) (e:Ending) (w':ae):Prop:=∃v,e=.returned (.tuple #[v,.int .i64 (n:Int),.int .i64 x])/\Own w.heap.size w' v l/\av w.heap.size w w'
theorem GD {w w':ae} {l l2:List Tk} {n n2:Nat} {x x2:Int} {e:Ending} {v:ai} (h:l=l2/\n=n2/\x=x2) (he:e=.returned (.tuple #[v,.int .i64 (n2:Int),.int .i64 x2])) (ho:Own w.heap.size w' v l2) (hb:av w.heap.size w w'):uk w l n x e w':=by
 obtain⟨rfl,rfl,rfl⟩:=h;exact⟨v,he,ho,hb⟩
theorem D8:∀(k:Nat) (l:List UInt8) (a:List Tk) (n:Nat),l.length<=k->(eG l a n).a.length<=a.length+l.length/\(eG l a n).n<=n+l.length
 | 0,l,a,n,h=>by
  have:l=[]:=List.length_eq_zero_iff.1 bU;subst this;rw[Nj];exact⟨ag _,ag _⟩
 | k+1,[],a,n,h=>by rw[Nj];exact⟨by simp,by simp⟩
 | k+1,c::t,a,n,h=>by
  have ht:t.length<=k:=by simpa using h
  rw[D6,ah]
  split
  · have:=D8 k t a n ht;omega
  · split
    · rename_i h2
      have h3:=yw (p:=gL) (c:=c) (t:=t) (by rw[h2];exact F8);have h4:=D8 k ((c::t).drop (dm gL (c::t))) a n (by rw[List.length_drop,ah];omega);rw[List.length_drop,ah] at h4;omega
    · split
      · have:=D8 k t (iD a n) (n+1) ht;have:=FQ a n;omega
      · cases h4:iN (c::t) with
        | none=>exact⟨by show a.length<=_;omega,by show n<=_;omega⟩
        | some y=>
         obtain⟨x,m⟩:=y;have h5:=DJ h4;rw[ah] at h5;have h6:=D8 k ((c::t).drop m) (a++[su x n]) n (by rw[List.length_drop,ah];omega);rw[List.length_drop,ah,au] at h6;simp only[ah,List.length_nil] at h6;exact⟨by show(eG ((c::t).drop m) _ _).a.length<=_;omega,by show(eG ((c::t).drop m) _ _).n<=_;omega⟩
theorem GG (s:ByteArray) (w:ae) (hs:s.size<=9223372036854775807) (hE:Env w):Calls af 28 #[.string s] w (uk w (gu (bs s)) (kL (bs s)) (gF (bs s))):=by
 by_cases h:20000<s.size
 · have HV:=U (Km (l:=bs s) Hr);have c1:decide ((20000:Int)<(s.size:Int))=true:=decide_eq_true bU;clear hE;go_enter func28,ntmps28;go_wp2_with fail;go_ret3
   exact GD HV.out rfl (World.ownsRow_nil _ _ _ _) (ax _ _)
 · have c1:decide ((20000:Int)<(s.size:Int))=false:=decide_eq_false bU;have I1:=aoC s w bU hE;have hlen:=D8 _ (bs s) [] 1 (ag _);rw[eF] at hlen
   cases hb:(eG (bs s) [] 1).bad with
   | true=>
    have HV:=U (Kk (l:=bs s) Hr hb)
    generalize eG (bs s) [] 1=R at *
    clear hE;go_enter func28,ntmps28;go_wp2_with fail;refine I1.mono ?_;rintro e w1 ⟨v,rfl,ho,hb1⟩;rw[hb];clear ho;go_wp2_with fail;go_ret3
    exact GD HV.out rfl (World.ownsRow_nil _ _ _ _) hb1
   | false=>
    have HV:=Kl (l:=bs s) Hr hb
    generalize eG (bs s) [] 1=R at *
    obtain⟨A,n,bad⟩:=R;have hb:bad=false:=hb;subst hb;have hn:n<=20001:=by have:n<=_:=hlen.2;omega
    have hA:A.length<=20000:=by have:A.length<=_:=hlen.1;simp at this;omega
    have HV':=U HV;have HA:=U hA;have HN:=U hn;clear HV hlen hE hA hn;go_enter func28,ntmps28;go_wp2_with fail;refine I1.mono ?_;rintro e w1 ⟨v,rfl,ho,hb1⟩;have I2:=Zm n w1 ho hb1.size (by have:A.length<=20000:=HA.out;show A.length<=1000000;omega);go_wp2_with fail;refine I2.mono ?_;rintro e w2 ⟨v2,rfl,ho2,hg2⟩;have hb2:=below_grown hb1 hb1.size ho hg2;have hB:av w2.heap.size w2 (w2.alloc (.cells #[.int .i64 0,.string ⟨#[]⟩,.int .i64 0,.int .i64 (n:Int)] 87)):=iw (ax _ _);obtain⟨v3,w3,hrun,ho3,hg3⟩:=Ih (own_below ho2 hB) cz (xV (w:=w2) (x:=⟨0,mt,0,(n:Int)⟩) (t:=87)) (by have:=HA.out;have:=FQ A n;omega) (by have:=hB.size;have:=hb2.size;omega);have hb3:=below_grown hb2 hb2.size ho2 (DK hg3);have HO:Hid (Own w.heap.size w3 v3 (fin ⟨A,n,false⟩)/\av w.heap.size w w3):=U ⟨ho3,hb3⟩;clear ho ho2 ho3 hg2 hg3 hb2 hb3 hB hb1;go_wp2_with (at_builtin;refine Lib.wpList_append_run _ rfl _ _ _ _ rfl _ _ rfl rfl _ _ hrun ?_)
    go_ret3
    exact GD HV'.out rfl HO.out.1 HO.out.2
end Lx
namespace Ps
open Lx (Tk gu kL gF)
def zF {α:Type} (z:α) (m:P α) (c:α->Int) (s:List UInt8):α×Int×Int:=
 if gF s=0 then (match run m (gu s) with
  | .ok x _=>if c x=0 then (x,0,0) else (z,0,c x)
  | .no u=>(z,(hd u).l,9))
 else (z,kL s,gF s)
section
variable {α:Type} {z:α} {m:P α} {c:α->Int} {s:List UInt8}
theorem aca (h:¬gF s=0):zF z m c s=(z,(kL s:Int),gF s):=by unfold zF;rw[if_neg h]
theorem acb {u:List Tk} (h:gF s=0) (hr:run m (gu s)=.no u):zF z m c s=(z,(hd u).l,9):=by unfold zF;rw[if_pos h,hr]
theorem ab_ {x:α} {u:List Tk} (h:gF s=0) (hr:run m (gu s)=.ok x u) (hc:¬c x=0):zF z m c s=(z,0,c x):=by unfold zF;rw[if_pos h,hr];simp only[if_neg hc]
theorem acd {x:α} {u:List Tk} (h:gF s=0) (hr:run m (gu s)=.ok x u) (hc:c x=0):zF z m c s=(x,0,0):=by unfold zF;rw[if_pos h,hr];simp only[if_pos hc]
end
end Ps
end Go.Proofs.YthnillhnjhalmaaGreatDoor
