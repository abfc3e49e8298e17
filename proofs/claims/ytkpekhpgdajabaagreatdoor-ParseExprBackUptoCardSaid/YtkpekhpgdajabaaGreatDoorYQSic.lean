/-
  Parts of this proof: The contract of checkSite; what Kind gives is as. The walk of checkSite. The contracts of checkSites and of Check. A model among the arguments.
-/
import Derived.Test.YtkpekhpgdajabaaGreatDoorYERChk
open Go.Proofs.Tryz
open Go.Ground renaming phase->U
open Go.Act renaming put->X
open Go.Proofs.Tryz renaming prog->ae
open Option renaming some->Y,none->A
open Go renaming World->Z,Value->ag,Calls->ah
open Go.AllReadyH renaming nil->af
open Go.RowKit renaming Below->ai
open Nat renaming lt_of_lt_of_le->aj
set_option linter.unusedSimpArgs false
set_option linter.unusedVariables false
set_option maxRecDepth 100000
set_option maxHeartbeats 8000000
open Go.Lib (hid)
namespace Go.Proofs.YtkpekhpgdajabaaGreatDoor
namespace Md
open Go.RowKit Go.Maps
open Sm (rU A_ gP)
open Ex (Lo)
structure Ay (x:cz):Prop where
 va:∀y∈x.va,y.nm.size<=9223372036854775807
 rs:∀y∈x.rs,y.nm.size<=9223372036854775807
 st:∀y∈x.st,y.nm.size<=9223372036854775807
 be:∀y∈x.be,y.nm.size<=9223372036854775807
 qu:∀y∈x.qu,y.size<=9223372036854775807
 sm:∀y∈x.sm,y.size<=9223372036854775807
 ta:∀y∈x.ta,y.size<=9223372036854775807
 le:∀y∈x.le,y.size<=9223372036854775807
 co:∀y∈x.co,y.size<=9223372036854775807
 ro:∀y∈x.ro,JP y
 la:∀y∈x.la,y.nm.size<=9223372036854775807
 nm:x.nm.size<=9223372036854775807
def KS (b B1 B2:Nat) (c:Array ag) (V:Z):Prop:=V.cell? ⟨B1,0,A⟩=Y (.map (Y b))/\bU V B2 54 c
theorem KS.Fw {b B1 B2:Nat} {c:Array ag} (h1:B1≠b) (h2:B2≠b):qI b (KS b B1 B2 c):=fun V V2 h hbt=>⟨wD hbt h.1 h1,h.2.but hbt h2⟩
theorem fK.at {w0:Z} {b:Nat} {K:Z->Prop} (hb:w0.heap.size<=b) (hK:qI b K) {acc:List ByteArray} {W W2:Z} (h:fK w0 b K acc W) (hW:ai W.heap.size W W2):fK w0 b K acc W2:=(fK.fine hb hK).on acc W W2 h hW
theorem ny.below {B:Nat} {w w2:Z} (hb:ai B w w2) {x:dm} {P:ed} (h:ny (Lo B) w x P):ny (Lo B) w2 x P:=h.map hb.size fun b g _=>⟨g,hb.block b g⟩
theorem ny.up {B:Nat} {w:Z} (hs:B<=w.heap.size) {x:dm} {P:ed} (h:ny (Lo B) w x P):ny (Lo w.heap.size) w x P:=h.map (Nat.le_refl _) fun b g _=>⟨aj g hs,rfl⟩
theorem oH.below {B:Nat} {w w2:Z} (hb:ai B w w2) {x:fo} {P:p_} (h:oH (Lo B) w x P):oH (Lo B) w2 x P:=h.map hb.size fun b g _=>⟨g,hb.block b g⟩
theorem oH.up {B:Nat} {w:Z} (hs:B<=w.heap.size) {x:fo} {P:p_} (h:oH (Lo B) w x P):oH (Lo w.heap.size) w x P:=h.map (Nat.le_refl _) fun b g _=>⟨aj g hs,rfl⟩
theorem jM {p:Prop} (h:p:=by omega):p:=h
theorem Pf {w0 V V2:Z} {b:Nat} (hV:ai w0.heap.size w0 V) (hbt:But b V V2) (hb:w0.heap.size<=b):ai w0.heap.size V V2:=⟨hbt.os,hbt.tape,hbt.output,hbt.size,fun k hk=>hbt.block k (aj hk hV.size) jM⟩
section
variable {w0:Z} {b B1 B2:Nat} {x:cz} {P:eP} (hx:iL (Lo w0.heap.size) w0 x P) (hz:Ay x) (hb:w0.heap.size<=b) (h1:B1≠b) (h2:B2≠b)
include hx hz hb h1 h2
theorem ahD {s0:List ByteArray} (h0:s0.length<=50000) (W:Z) (hW:fK w0 b (KS b B1 B2 (b_ x P)) s0 W) :
 ah ae 131 #[.slice P.vJ P.vI P.qx,.int .i64 ((32:Nat):Int),.func (.func 132) #[] #[.pointer (Y ⟨B1,0,A⟩),.pointer (Y ⟨B2,0,A⟩)]] W (Does (fK w0 b (KS b B1 B2 (b_ x P))) (df eB 32 (x.rs.map (IJ x.sm)) s0)):=by
 have hSt:=KS.Fw (c:=b_ x P) h1 h2;rw[n_];refine ahs (hid hx.rs) #[] #[.pointer (Y ⟨B1,0,A⟩),.pointer (Y ⟨B2,0,A⟩)] _ (hid (fK.fine hb hSt)) (fun a l=>eB a (IJ x.sm l)) 32 jM s0 (hid fun k s l c V hxk hm hg hR hI=>?_) W (hid hW);rw[OM];obtain⟨Q,rfl,hQ⟩:=hR;have hsh:=zC hm hg;refine(agD l Q b B1 s V hI.tN jM (hz.rs l (List.mem_of_getElem? hxk)) hI.k.1 h1 B2 P.tT P.tQ P.tO (hI.k.2.get (Pt x P)) h2 (Dp x.sm l) (hid fun V2 hbt=>?_)).mono fun e W2 h=>hI.step hb hSt h;have hb2:ai w0.heap.size w0 V2:=But.below hI.below hbt hb hI.below.size;exact af8 l Q x.sm P.tT P.tQ P.tO V2 ((hQ.below (Pf hI.below hbt hb)).up hb2.size) (Rw.strs (hx.sm.below dU.map hb2))
theorem ahE {s0:List ByteArray} (h0:s0.length<=50000) (W:Z) (hW:fK w0 b (KS b B1 B2 (b_ x P)) s0 W) :
 ah ae 134 #[.slice P.vN P.fC P.xJ,.int .i64 ((32:Nat):Int),.func (.func 135) #[] #[.pointer (Y ⟨B1,0,A⟩)]] W (Does (fK w0 b (KS b B1 B2 (b_ x P))) (df eB 32 (x.st.map I6) s0)):=by
 have hSt:=KS.Fw (c:=b_ x P) h1 h2;rw[n_];refine ahw (hid hx.st) #[] #[.pointer (Y ⟨B1,0,A⟩)] _ (hid (fK.fine hb hSt)) (fun a l=>eB a (I6 l)) 32 jM s0 (hid fun k s l c V hxk hm hg hR hI=>?_) W (hid hW);rw[Ei,show c=lQ l from hR];have hsh:=zC hm hg;exact(agG l b B1 s V hI.tN jM (hz.st l (List.mem_of_getElem? hxk)) hI.k.1 h1 (z_ l) (hid fun V2 hbt=>agd l V2)).mono fun e W2 h=>hI.step hb hSt h
theorem ahA {s0:List ByteArray} (h0:s0.length<=50000) (W:Z) (hW:fK w0 b (KS b B1 B2 (b_ x P)) s0 W) :
 ah ae 137 #[.slice P.uu P.uq P.wy,.int .i64 ((32:Nat):Int),.func (.func 138) #[] #[.pointer (Y ⟨B1,0,A⟩)]] W (Does (fK w0 b (KS b B1 B2 (b_ x P))) (df eB 32 (x.be.map GA) s0)):=by
 have hSt:=KS.Fw (c:=b_ x P) h1 h2;rw[n_];refine aho (hid hx.be) #[] #[.pointer (Y ⟨B1,0,A⟩)] _ (hid (fK.fine hb hSt)) (fun a l=>eB a (GA l)) 32 jM s0 (hid fun k s l c V hxk hm hg hR hI=>?_) W (hid hW);rw[Ei,show c=lN l from hR];have hsh:=zC hm hg;exact(agA l b B1 s V hI.tN jM (hz.be l (List.mem_of_getElem? hxk)) hI.k.1 h1 (zl l) (hid fun V2 hbt=>af2 l V2)).mono fun e W2 h=>hI.step hb hSt h
theorem ahC {s0:List ByteArray} (h0:s0.length<=50000) (W:Z) (hW:fK w0 b (KS b B1 B2 (b_ x P)) s0 W) :
 ah ae 141 #[.slice P.xB P.rV P.zV,.int .i64 ((16:Nat):Int),.func (.func 142) #[] #[.pointer (Y ⟨B1,0,A⟩)]] W (Does (fK w0 b (KS b B1 B2 (b_ x P))) (df eB 16 (x.ro.map IK) s0)):=by
 have hSt:=KS.Fw (c:=b_ x P) h1 h2;rw[n_];refine aht (hid hx.ro) #[] #[.pointer (Y ⟨B1,0,A⟩)] _ (hid (fK.fine hb hSt)) (fun a l=>eB a (IK l)) 16 jM s0 (hid fun k s l c V hxk hm hg hR hI=>?_) W (hid hW);rw[Ei];obtain⟨Q,rfl,hQ⟩:=hR;have hsh:=zC hm hg;have Zq:=hz.ro l (List.mem_of_getElem? hxk);refine(agE l Q b B1 s V hI.tN jM Zq.nm hI.k.1 h1 (Dr l) (hid fun V2 hbt=>?_)).mono fun e W2 h=>hI.step hb hSt h;have hb2:ai w0.heap.size w0 V2:=But.below hI.below hbt hb hI.below.size;exact af9 l Q V2 ((hQ.below (Pf hI.below hbt hb)).up hb2.size) Zq
end
theorem afX (w:Z) (t:TypeId) (r0 r1 r2 r3 r4 r5 r6 r7 r8 r9 xA Fq:Int):∀i,(h:i<[r0,r1,r2,r3,r4,r5,r6,r7,r8,r9,xA,Fq].length)->(w.alloc (.cells #[.int .i64 r0,.int .i64 r1,.int .i64 r2,.int .i64 r3,.int .i64 r4,.int .i64 r5,.int .i64 r6,.int .i64 r7,.int .i64 r8,.int .i64 r9,.int .i64 xA,.int .i64 Fq] t)).cell? ⟨w.heap.size,i,A⟩=Y (.int .i64 [r0,r1,r2,r3,r4,r5,r6,r7,r8,r9,xA,Fq][i]):=by
 intro i h;rw[World.cell?_alloc_mark]
 match i,h with
 | 0,_=>rfl
 | 1,_=>rfl
 | 2,_=>rfl
 | 3,_=>rfl
 | 4,_=>rfl
 | 5,_=>rfl
 | 6,_=>rfl
 | 7,_=>rfl
 | 8,_=>rfl
 | 9,_=>rfl
 | 10,_=>rfl
 | 11,_=>rfl
structure iI (w:Z) (P:eP) (x:cz) (n13:Nat) (W:Z):Prop where
 f1:W.cell? ⟨w.heap.size,1,A⟩=Y (.slice P.xX P.xW P.xV)
 f2:W.cell? ⟨w.heap.size,2,A⟩=Y (.slice P.vJ P.vI P.qx)
 f3:W.cell? ⟨w.heap.size,3,A⟩=Y (.slice P.vN P.fC P.xJ)
 f4:W.cell? ⟨w.heap.size,4,A⟩=Y (.slice P.uu P.uq P.wy)
 f5:W.cell? ⟨w.heap.size,5,A⟩=Y (.slice P.xz P.xy P.xx)
 f6:W.cell? ⟨w.heap.size,6,A⟩=Y (.slice P.tT P.tQ P.tO)
 f7:W.cell? ⟨w.heap.size,7,A⟩=Y (.slice P.xL P.xK P.tac)
 f8:W.cell? ⟨w.heap.size,8,A⟩=Y (.slice P.wX P.wW P.wV)
 f9:W.cell? ⟨w.heap.size,9,A⟩=Y (.slice P.wG P.wF P.wE)
 f10:W.cell? ⟨w.heap.size,10,A⟩=Y (.slice P.xB P.rV P.zV)
 f11:W.cell? ⟨w.heap.size,11,A⟩=Y (.slice P.Bp P.Bo P.DD)
 f12:W.cell? ⟨w.heap.size+1+1,0,A⟩=Y (.map (Y (w.heap.size+1)))
 f13:(loadCellsFrom ⟨w.heap.size,0,A⟩ 0 n13 #[]).run ae W=.ok (b_ x P) W
def dY (w:Z) (x:cz) (P:eP) (acc:List ByteArray) (W:Z):Prop:=fK w (w.heap.size+1) (KS (w.heap.size+1) (w.heap.size+1+1) w.heap.size (b_ x P)) acc W
theorem dY.at {w:Z} {x:cz} {P:eP} {acc:List ByteArray} {V W:Z} (h:dY w x P acc V) (hW:ai V.heap.size V W):dY w x P acc W:=fK.at jM (KS.Fw jM jM) h hW
structure Vf (w:Z) (x:cz) (P:eP) (n13:Nat) (e1 e2 e3 e4 e5 e6 e7 e8 e9 e10 e11 e12:Int) (a1 a2 a3 a4 a5 a6 a7 a8 a9 mP:List ByteArray):Prop where
 c1:∀W,dY w x P [] W->ah ae 54 #[.slice P.xX P.xW P.xV,.int .i64 32,.func (.func 55) #[.map (Y (w.heap.size+1))] #[]] W (fun e W2=>e=.returned (.int .i64 e1)/\dY w x P a1 W2)
 c2:∀W,dY w x P a1 W->ah ae 131 #[.slice P.vJ P.vI P.qx,.int .i64 32,.func (.func 132) #[] #[.pointer (Y ⟨w.heap.size+1+1,0,A⟩),.pointer (Y ⟨w.heap.size,0,A⟩)]] W (fun e W2=>e=.returned (.int .i64 e2)/\dY w x P a2 W2)
 c3:∀W,dY w x P a2 W->ah ae 134 #[.slice P.vN P.fC P.xJ,.int .i64 32,.func (.func 135) #[] #[.pointer (Y ⟨w.heap.size+1+1,0,A⟩)]] W (fun e W2=>e=.returned (.int .i64 e3)/\dY w x P a3 W2)
 c4:∀W,dY w x P a3 W->ah ae 137 #[.slice P.uu P.uq P.wy,.int .i64 32,.func (.func 138) #[] #[.pointer (Y ⟨w.heap.size+1+1,0,A⟩)]] W (fun e W2=>e=.returned (.int .i64 e4)/\dY w x P a4 W2)
 c5:∀W,dY w x P a4 W->ah ae 140 #[.slice P.xz P.xy P.xx,.int .i64 32,.func (.func 89) #[.map (Y (w.heap.size+1))] #[]] W (fun e W2=>e=.returned (.int .i64 e5)/\dY w x P a5 W2)
 c6:∀W,dY w x P a5 W->ah ae 140 #[.slice P.tT P.tQ P.tO,.int .i64 32,.func (.func 89) #[.map (Y (w.heap.size+1))] #[]] W (fun e W2=>e=.returned (.int .i64 e6)/\dY w x P a6 W2)
 c7:∀W,dY w x P a6 W->ah ae 140 #[.slice P.xL P.xK P.tac,.int .i64 32,.func (.func 89) #[.map (Y (w.heap.size+1))] #[]] W (fun e W2=>e=.returned (.int .i64 e7)/\dY w x P a7 W2)
 c8:∀W,dY w x P a7 W->ah ae 140 #[.slice P.wX P.wW P.wV,.int .i64 32,.func (.func 89) #[.map (Y (w.heap.size+1))] #[]] W (fun e W2=>e=.returned (.int .i64 e8)/\dY w x P a8 W2)
 c9:∀W,dY w x P a8 W->ah ae 140 #[.slice P.wG P.wF P.wE,.int .i64 32,.func (.func 89) #[.map (Y (w.heap.size+1))] #[]] W (fun e W2=>e=.returned (.int .i64 e9)/\dY w x P a9 W2)
 c10:∀W,dY w x P a9 W->ah ae 141 #[.slice P.xB P.rV P.zV,.int .i64 16,.func (.func 142) #[] #[.pointer (Y ⟨w.heap.size+1+1,0,A⟩)]] W (fun e W2=>e=.returned (.int .i64 e10)/\dY w x P mP W2)
 c11:∀W,dY w x P mP W->ah ae 144 #[.slice P.Bp P.Bo P.DD,.int .i64 32,.func (.func 145) #[] #[.pointer (Y ⟨w.heap.size,0,A⟩)]] W (fun e W2=>e=.returned (.int .i64 e11)/\dY w x P mP W2)
 c12:∀W,dY w x P mP W->ah ae 147 #[.agg (b_ x P)] W (fun e W2=>e=.returned (.int .i64 e12)/\dY w x P mP W2)
 fs:∀(acc:List ByteArray) (V W:Z),dY w x P acc V->ai V.heap.size V W->iI w P x n13 W
 hi:dY w x P [] (((w.alloc (.cells (b_ x P) 54)).alloc (.map #[] 0)).alloc (.cells #[.map (Y (w.heap.size+1))] 108))
theorem ani (hK:uk) (x:cz) (P:eP) (w:Z) (hx:iL (Lo w.heap.size) w x P) (hz:Ay x) (n13:Nat) (ji:13=n13):∃(e1 e2 e3 e4 e5 e6 e7 e8 e9 e10 e11 e12:Int) (a1 a2 a3 a4 a5 a6 a7 a8 a9 mP:List ByteArray),Vf w x P n13 e1 e2 e3 e4 e5 e6 e7 e8 e9 e10 e11 e12 a1 a2 a3 a4 a5 a6 a7 a8 a9 mP/\Fv x=gP [e1,e2,e3,e4,e5,e6,e7,e8,e9,e10,e11,e12]:=by
 have FX:=far (w:=w) 54 (b_ x P);have hb:w.heap.size<=w.heap.size+1:=by omega
 have hSt:=KS.Fw (c:=b_ x P) (show w.heap.size+1+1≠w.heap.size+1 by omega) (show w.heap.size≠w.heap.size+1 by omega);obtain⟨⟨e1,a1⟩,h1⟩:∃r,df eB 32 (x.va.map DR) []=r:=⟨_,rfl⟩
 obtain⟨⟨e2,a2⟩,h2⟩:∃r,df eB 32 (x.rs.map (IJ x.sm)) a1=r:=⟨_,rfl⟩
 obtain⟨⟨e3,a3⟩,h3⟩:∃r,df eB 32 (x.st.map I6) a2=r:=⟨_,rfl⟩
 obtain⟨⟨e4,a4⟩,h4⟩:∃r,df eB 32 (x.be.map GA) a3=r:=⟨_,rfl⟩
 obtain⟨⟨e5,a5⟩,h5⟩:∃r,df eB 32 (x.qu.map pI) a4=r:=⟨_,rfl⟩
 obtain⟨⟨e6,a6⟩,h6⟩:∃r,df eB 32 (x.sm.map pI) a5=r:=⟨_,rfl⟩
 obtain⟨⟨e7,a7⟩,h7⟩:∃r,df eB 32 (x.ta.map pI) a6=r:=⟨_,rfl⟩
 obtain⟨⟨e8,a8⟩,h8⟩:∃r,df eB 32 (x.le.map pI) a7=r:=⟨_,rfl⟩
 obtain⟨⟨e9,a9⟩,h9⟩:∃r,df eB 32 (x.co.map pI) a8=r:=⟨_,rfl⟩
 obtain⟨⟨e10,mP⟩,h10⟩:∃r,df eB 16 (x.ro.map IK) a9=r:=⟨_,rfl⟩
 obtain⟨e11,h11⟩:∃r,A7 (xI x.ro) 32 x.ss=r:=⟨_,rfl⟩
 obtain⟨e12,h12⟩:∃r,ET x=r:=⟨_,rfl⟩
 have HT:Fv x=gP [e1,e2,e3,e4,e5,e6,e7,e8,e9,e10,e11,e12]:=by
  unfold Fv kinds;simp only[Tv,h1,h2,h3,h4,h5,h6,h7,h8,h9,h10,h11,h12,EH,Zr,gP,rU,A_]
 have l0:([]:List ByteArray).length<=0:=Nat.le_refl _;have l1:a1.length<=32:=by
  have q:=yw (g:=fun y=>DR y) (most:=32) (l:=x.va) (s:=[]);rw[← n_ (f:=eB),h1] at q;have q2:a1.length<=([]:List ByteArray).length+32:=q;omega
 have l2:a2.length<=64:=by
  have q:=yw (g:=fun y=>(IJ x.sm) y) (most:=32) (l:=x.rs) (s:=a1);rw[← n_ (f:=eB),h2] at q;have q2:a2.length<=(a1:List ByteArray).length+32:=q;omega
 have l3:a3.length<=96:=by
  have q:=yw (g:=fun y=>I6 y) (most:=32) (l:=x.st) (s:=a2);rw[← n_ (f:=eB),h3] at q;have q2:a3.length<=(a2:List ByteArray).length+32:=q;omega
 have l4:a4.length<=128:=by
  have q:=yw (g:=fun y=>GA y) (most:=32) (l:=x.be) (s:=a3);rw[← n_ (f:=eB),h4] at q;have q2:a4.length<=(a3:List ByteArray).length+32:=q;omega
 have l5:a5.length<=160:=by
  have q:=yw (g:=fun y=>pI y) (most:=32) (l:=x.qu) (s:=a4);rw[← n_ (f:=eB),h5] at q;have q2:a5.length<=(a4:List ByteArray).length+32:=q;omega
 have l6:a6.length<=192:=by
  have q:=yw (g:=fun y=>pI y) (most:=32) (l:=x.sm) (s:=a5);rw[← n_ (f:=eB),h6] at q;have q2:a6.length<=(a5:List ByteArray).length+32:=q;omega
 have l7:a7.length<=224:=by
  have q:=yw (g:=fun y=>pI y) (most:=32) (l:=x.ta) (s:=a6);rw[← n_ (f:=eB),h7] at q;have q2:a7.length<=(a6:List ByteArray).length+32:=q;omega
 have l8:a8.length<=256:=by
  have q:=yw (g:=fun y=>pI y) (most:=32) (l:=x.le) (s:=a7);rw[← n_ (f:=eB),h8] at q;have q2:a8.length<=(a7:List ByteArray).length+32:=q;omega
 have l9:a9.length<=288:=by
  have q:=yw (g:=fun y=>pI y) (most:=32) (l:=x.co) (s:=a8);rw[← n_ (f:=eB),h9] at q;have q2:a9.length<=(a8:List ByteArray).length+32:=q;omega
 have l10:mP.length<=304:=by
  have q:=yw (g:=fun y=>IK y) (most:=16) (l:=x.ro) (s:=a9);rw[← n_ (f:=eB),h10] at q;have q2:mP.length<=(a9:List ByteArray).length+16:=q;omega
 have C1:∀W,dY w x P [] W->ah ae 54 #[.slice P.xX P.xW P.xV,.int .i64 32,.func (.func 55) #[.map (Y (w.heap.size+1))] #[]] W (fun e W2=>e=.returned (.int .i64 e1)/\dY w x P a1 W2):=fun W hW=>by
  have q:=Xr (c:=P.xV) hb hSt hx.va hz.va 32 jM [] cK W hW;rw[h1] at q;exact q
 have C2:∀W,dY w x P a1 W->ah ae 131 #[.slice P.vJ P.vI P.qx,.int .i64 32,.func (.func 132) #[] #[.pointer (Y ⟨w.heap.size+1+1,0,A⟩),.pointer (Y ⟨w.heap.size,0,A⟩)]] W (fun e W2=>e=.returned (.int .i64 e2)/\dY w x P a2 W2):=fun W hW=>by
  have q:=ahD hx hz hb (show w.heap.size+1+1≠w.heap.size+1 by omega) (show w.heap.size≠w.heap.size+1 by omega) jM W hW;rw[h2] at q;exact q
 have C3:∀W,dY w x P a2 W->ah ae 134 #[.slice P.vN P.fC P.xJ,.int .i64 32,.func (.func 135) #[] #[.pointer (Y ⟨w.heap.size+1+1,0,A⟩)]] W (fun e W2=>e=.returned (.int .i64 e3)/\dY w x P a3 W2):=fun W hW=>by
  have q:=ahE hx hz hb (show w.heap.size+1+1≠w.heap.size+1 by omega) (show w.heap.size≠w.heap.size+1 by omega) jM W hW;rw[h3] at q;exact q
 have C4:∀W,dY w x P a3 W->ah ae 137 #[.slice P.uu P.uq P.wy,.int .i64 32,.func (.func 138) #[] #[.pointer (Y ⟨w.heap.size+1+1,0,A⟩)]] W (fun e W2=>e=.returned (.int .i64 e4)/\dY w x P a4 W2):=fun W hW=>by
  have q:=ahA hx hz hb (show w.heap.size+1+1≠w.heap.size+1 by omega) (show w.heap.size≠w.heap.size+1 by omega) jM W hW;rw[h4] at q;exact q
 have C5:∀W,dY w x P a4 W->ah ae 140 #[.slice P.xz P.xy P.xx,.int .i64 32,.func (.func 89) #[.map (Y (w.heap.size+1))] #[]] W (fun e W2=>e=.returned (.int .i64 e5)/\dY w x P a5 W2):=fun W hW=>by
  have q:=GV (c:=P.xx) hb hSt hx.qu hz.qu 32 jM a4 jM W hW;rw[h5] at q;exact q
 have C6:∀W,dY w x P a5 W->ah ae 140 #[.slice P.tT P.tQ P.tO,.int .i64 32,.func (.func 89) #[.map (Y (w.heap.size+1))] #[]] W (fun e W2=>e=.returned (.int .i64 e6)/\dY w x P a6 W2):=fun W hW=>by
  have q:=GV (c:=P.tO) hb hSt hx.sm hz.sm 32 jM a5 jM W hW;rw[h6] at q;exact q
 have C7:∀W,dY w x P a6 W->ah ae 140 #[.slice P.xL P.xK P.tac,.int .i64 32,.func (.func 89) #[.map (Y (w.heap.size+1))] #[]] W (fun e W2=>e=.returned (.int .i64 e7)/\dY w x P a7 W2):=fun W hW=>by
  have q:=GV (c:=P.tac) hb hSt hx.ta hz.ta 32 jM a6 jM W hW;rw[h7] at q;exact q
 have C8:∀W,dY w x P a7 W->ah ae 140 #[.slice P.wX P.wW P.wV,.int .i64 32,.func (.func 89) #[.map (Y (w.heap.size+1))] #[]] W (fun e W2=>e=.returned (.int .i64 e8)/\dY w x P a8 W2):=fun W hW=>by
  have q:=GV (c:=P.wV) hb hSt hx.le hz.le 32 jM a7 jM W hW;rw[h8] at q;exact q
 have C9:∀W,dY w x P a8 W->ah ae 140 #[.slice P.wG P.wF P.wE,.int .i64 32,.func (.func 89) #[.map (Y (w.heap.size+1))] #[]] W (fun e W2=>e=.returned (.int .i64 e9)/\dY w x P a9 W2):=fun W hW=>by
  have q:=GV (c:=P.wE) hb hSt hx.co hz.co 32 jM a8 jM W hW;rw[h9] at q;exact q
 have Ob:∀W,dY w x P a9 W->ah ae 141 #[.slice P.xB P.rV P.zV,.int .i64 16,.func (.func 142) #[] #[.pointer (Y ⟨w.heap.size+1+1,0,A⟩)]] W (fun e W2=>e=.returned (.int .i64 e10)/\dY w x P mP W2):=fun W hW=>by
  have q:=ahC hx hz hb (show w.heap.size+1+1≠w.heap.size+1 by omega) (show w.heap.size≠w.heap.size+1 by omega) jM W hW;rw[h10] at q;exact q
 have C11:∀W,dY w x P mP W->ah ae 144 #[.slice P.Bp P.Bo P.DD,.int .i64 32,.func (.func 145) #[] #[.pointer (Y ⟨w.heap.size,0,A⟩)]] W (fun e W2=>e=.returned (.int .i64 e11)/\dY w x P mP W2):=fun W hW=>by
  rw[← h11];exact(anK x P w hx w.heap.size W hW.below hW.k.2).mono fun e W2 h=>⟨h.1,hW.at h.2⟩
 have C12:∀W,dY w x P mP W->ah ae 147 #[.agg (b_ x P)] W (fun e W2=>e=.returned (.int .i64 e12)/\dY w x P mP W2):=fun W hW=>by
  rw[← h12];exact(af6 hK x P W ((hx.below hW.below).up hW.below.size) hz.la).mono fun e W2 h=>⟨h.1,hW.at h.2⟩
 have FS:∀(acc:List ByteArray) (V W:Z),dY w x P acc V->ai V.heap.size V W->iI w P x n13 W:=fun acc V W h hW=>by
  have g:=h.at hW;have q:=g.k.2;exact⟨q.get (V_ x P),q.get (Wh x P),q.get (Wi x P),q.get (Wj x P),q.get (Wl x P),q.get (Pt x P),q.get (Wm x P),q.get (Wn x P),q.get (Wo x P),q.get (Kg x P),q.get (Wd x P),g.k.1,q.cell.fZ ji⟩
 have HI0:dY w x P [] (((w.alloc (.cells (b_ x P) 54)).alloc (.map #[] 0)).alloc (.cells #[.map (Y (w.heap.size+1))] 108)):=⟨bl,(IV (w:=w.alloc (.cells (b_ x P) 54)) (n:=w.heap.size+1) cK).on bl,by go_simp,FX.out _ bl⟩
 exact⟨e1,e2,e3,e4,e5,e6,e7,e8,e9,e10,e11,e12,a1,a2,a3,a4,a5,a6,a7,a8,a9,mP,⟨C1,C2,C3,C4,C5,C6,C7,C8,C9,Ob,C11,C12,FS,HI0⟩,HT⟩
end Md
namespace Md
open Go.RowKit Go.Maps
open Sm (gP ow)
open Ex (Lo Gives)
theorem sw {p:Prop} (h:p:=by
 clear hHeld HC hI0 hV hmm
 first|(go_simp;done)|(go_simp;with_reducible rfl)
 ):p:=h
theorem kY {p:Prop} (h:p:=by
 intro W2 hS2;replace hS2:=(show iI w P x n13 W2 from hS2)
 exact sw
 ):p:=h
theorem FW {p:Prop} (h:p:=by
 intro W2 hS2;replace hS2:=(show iI w P x n13 W2 from hS2)
 have q12:=hS2.f12;exact sw
 ):p:=h
theorem anj (x:cz) (P:eP) (w:Z) (n13:Nat) (AR:∀w,(sizeOf 54).run ae w=.ok n13 w) (e1 e2 e3 e4 e5 e6 e7 e8 e9 e10 e11 e12:Int) (a1 a2 a3 a4 a5 a6 a7 a8 a9 mP:List ByteArray) (HC:Vf w x P n13 e1 e2 e3 e4 e5 e6 e7 e8 e9 e10 e11 e12 a1 a2 a3 a4 a5 a6 a7 a8 a9 mP):ah ae 94 #[.agg (b_ x P)] w (Gives (.int .i64 (gP [e1,e2,e3,e4,e5,e6,e7,e8,e9,e10,e11,e12])) w):=by
 have hmm:=@run_makeMap ae;obtain⟨V,hV⟩:∃V,gP [e1,e2,e3,e4,e5,e6,e7,e8,e9,e10,e11,e12]=V:=⟨_,rfl⟩
 rw[hV];replace hV:=hid hV;go_enter func94,ntmps94;go_wp2_with fail;have hI0:=HC.hi;refine wp_region_noPanic ?_;refine wp_region_held_drew (S:=(fun(W:Z)=>iI w P x n13 W)) dx (show((fun(W:Z)=>iI w P x n13 W)) _ from(HC.fs _ _ _ hI0 bl)) (fun hHeld=>?_);refine htake 0 ((.pointer (Y ⟨w.heap.size,1,A⟩):ag)) (hy:=?_) (h:=?_)
 · exact kY
 try simp only[X,sA,sB,sC]
 refine htake 1 ((.slice P.xX P.xW P.xV:ag)) (hy:=?_) (h:=?_)
 · intro W2 hS2;replace hS2:=(show iI w P x n13 W2 from hS2)
   have q1:=hS2.f1;exact sw
 try simp only[X,sA,sB,sC]
 refine htake 2 ((.map (Y (w.heap.size+1)):ag)) (hy:=?_) (h:=?_)
 · exact FW
 try simp only[X,sA,sB,sC]
 refine htake 3 ((.func (.func 55) #[.map (Y (w.heap.size+1))] #[]:ag)) (hy:=?_) (h:=?_)
 · exact kY
 try simp only[X,sA,sB,sC]
 refine htake 5 ((.pointer (Y ⟨w.heap.size,2,A⟩):ag)) (hy:=?_) (h:=?_)
 · exact kY
 try simp only[X,sA,sB,sC]
 refine htake 6 ((.slice P.vJ P.vI P.qx:ag)) (hy:=?_) (h:=?_)
 · intro W2 hS2;replace hS2:=(show iI w P x n13 W2 from hS2)
   have q2:=hS2.f2;exact sw
 try simp only[X,sA,sB,sC]
 refine htake 7 ((.func (.func 132) #[] #[.pointer (Y ⟨w.heap.size+1+1,0,A⟩),.pointer (Y ⟨w.heap.size,0,A⟩)]:ag)) (hy:=?_) (h:=?_)
 · exact kY
 try simp only[X,sA,sB,sC]
 refine htake 9 ((.pointer (Y ⟨w.heap.size,3,A⟩):ag)) (hy:=?_) (h:=?_)
 · exact kY
 try simp only[X,sA,sB,sC]
 refine htake 10 ((.slice P.vN P.fC P.xJ:ag)) (hy:=?_) (h:=?_)
 · intro W2 hS2;replace hS2:=(show iI w P x n13 W2 from hS2)
   have q3:=hS2.f3;exact sw
 try simp only[X,sA,sB,sC]
 refine htake 11 ((.func (.func 135) #[] #[.pointer (Y ⟨w.heap.size+1+1,0,A⟩)]:ag)) (hy:=?_) (h:=?_)
 · exact kY
 try simp only[X,sA,sB,sC]
 refine htake 13 ((.pointer (Y ⟨w.heap.size,4,A⟩):ag)) (hy:=?_) (h:=?_)
 · exact kY
 try simp only[X,sA,sB,sC]
 refine htake 14 ((.slice P.uu P.uq P.wy:ag)) (hy:=?_) (h:=?_)
 · intro W2 hS2;replace hS2:=(show iI w P x n13 W2 from hS2)
   have q4:=hS2.f4;exact sw
 try simp only[X,sA,sB,sC]
 refine htake 15 ((.func (.func 138) #[] #[.pointer (Y ⟨w.heap.size+1+1,0,A⟩)]:ag)) (hy:=?_) (h:=?_)
 · exact kY
 try simp only[X,sA,sB,sC]
 refine htake 17 ((.pointer (Y ⟨w.heap.size,5,A⟩):ag)) (hy:=?_) (h:=?_)
 · exact kY
 try simp only[X,sA,sB,sC]
 refine htake 18 ((.slice P.xz P.xy P.xx:ag)) (hy:=?_) (h:=?_)
 · intro W2 hS2;replace hS2:=(show iI w P x n13 W2 from hS2)
   have q5:=hS2.f5;exact sw
 try simp only[X,sA,sB,sC]
 refine htake 19 ((.map (Y (w.heap.size+1)):ag)) (hy:=?_) (h:=?_)
 · exact FW
 try simp only[X,sA,sB,sC]
 refine htake 20 ((.func (.func 89) #[.map (Y (w.heap.size+1))] #[]:ag)) (hy:=?_) (h:=?_)
 · exact kY
 try simp only[X,sA,sB,sC]
 refine htake 22 ((.pointer (Y ⟨w.heap.size,6,A⟩):ag)) (hy:=?_) (h:=?_)
 · exact kY
 try simp only[X,sA,sB,sC]
 refine htake 23 ((.slice P.tT P.tQ P.tO:ag)) (hy:=?_) (h:=?_)
 · intro W2 hS2;replace hS2:=(show iI w P x n13 W2 from hS2)
   have q6:=hS2.f6;exact sw
 try simp only[X,sA,sB,sC]
 refine htake 24 ((.map (Y (w.heap.size+1)):ag)) (hy:=?_) (h:=?_)
 · exact FW
 try simp only[X,sA,sB,sC]
 refine htake 25 ((.func (.func 89) #[.map (Y (w.heap.size+1))] #[]:ag)) (hy:=?_) (h:=?_)
 · exact kY
 try simp only[X,sA,sB,sC]
 refine htake 27 ((.pointer (Y ⟨w.heap.size,7,A⟩):ag)) (hy:=?_) (h:=?_)
 · exact kY
 try simp only[X,sA,sB,sC]
 refine htake 28 ((.slice P.xL P.xK P.tac:ag)) (hy:=?_) (h:=?_)
 · intro W2 hS2;replace hS2:=(show iI w P x n13 W2 from hS2)
   have q7:=hS2.f7;exact sw
 try simp only[X,sA,sB,sC]
 refine htake 29 ((.map (Y (w.heap.size+1)):ag)) (hy:=?_) (h:=?_)
 · exact FW
 try simp only[X,sA,sB,sC]
 refine htake 30 ((.func (.func 89) #[.map (Y (w.heap.size+1))] #[]:ag)) (hy:=?_) (h:=?_)
 · exact kY
 try simp only[X,sA,sB,sC]
 refine htake 32 ((.pointer (Y ⟨w.heap.size,8,A⟩):ag)) (hy:=?_) (h:=?_)
 · exact kY
 try simp only[X,sA,sB,sC]
 refine htake 33 ((.slice P.wX P.wW P.wV:ag)) (hy:=?_) (h:=?_)
 · intro W2 hS2;replace hS2:=(show iI w P x n13 W2 from hS2)
   have q8:=hS2.f8;exact sw
 try simp only[X,sA,sB,sC]
 refine htake 34 ((.map (Y (w.heap.size+1)):ag)) (hy:=?_) (h:=?_)
 · exact FW
 try simp only[X,sA,sB,sC]
 refine htake 35 ((.func (.func 89) #[.map (Y (w.heap.size+1))] #[]:ag)) (hy:=?_) (h:=?_)
 · exact kY
 try simp only[X,sA,sB,sC]
 refine htake 37 ((.pointer (Y ⟨w.heap.size,9,A⟩):ag)) (hy:=?_) (h:=?_)
 · exact kY
 try simp only[X,sA,sB,sC]
 refine htake 38 ((.slice P.wG P.wF P.wE:ag)) (hy:=?_) (h:=?_)
 · intro W2 hS2;replace hS2:=(show iI w P x n13 W2 from hS2)
   have q9:=hS2.f9;exact sw
 try simp only[X,sA,sB,sC]
 refine htake 39 ((.map (Y (w.heap.size+1)):ag)) (hy:=?_) (h:=?_)
 · exact FW
 try simp only[X,sA,sB,sC]
 refine htake 40 ((.func (.func 89) #[.map (Y (w.heap.size+1))] #[]:ag)) (hy:=?_) (h:=?_)
 · exact kY
 try simp only[X,sA,sB,sC]
 refine htake 42 ((.pointer (Y ⟨w.heap.size,10,A⟩):ag)) (hy:=?_) (h:=?_)
 · exact kY
 try simp only[X,sA,sB,sC]
 refine htake 43 ((.slice P.xB P.rV P.zV:ag)) (hy:=?_) (h:=?_)
 · intro W2 hS2;replace hS2:=(show iI w P x n13 W2 from hS2)
   have vG:=hS2.f10;exact sw
 try simp only[X,sA,sB,sC]
 refine htake 44 ((.func (.func 142) #[] #[.pointer (Y ⟨w.heap.size+1+1,0,A⟩)]:ag)) (hy:=?_) (h:=?_)
 · exact kY
 try simp only[X,sA,sB,sC]
 refine htake 46 ((.pointer (Y ⟨w.heap.size,11,A⟩):ag)) (hy:=?_) (h:=?_)
 · exact kY
 try simp only[X,sA,sB,sC]
 refine htake 47 ((.slice P.Bp P.Bo P.DD:ag)) (hy:=?_) (h:=?_)
 · intro W2 hS2;replace hS2:=(show iI w P x n13 W2 from hS2)
   have Mq:=hS2.f11;exact sw
 try simp only[X,sA,sB,sC]
 refine htake 48 ((.func (.func 145) #[] #[.pointer (Y ⟨w.heap.size,0,A⟩)]:ag)) (hy:=?_) (h:=?_)
 · exact kY
 try simp only[X,sA,sB,sC]
 refine htake 50 ((.agg (b_ x P):ag)) (hy:=?_) (h:=?_)
 · intro W2 hS2;replace hS2:=(show iI w P x n13 W2 from hS2)
   have q13:=hS2.f13;exact sw
 try simp only[X,sA,sB,sC]
 refine qR [4] ?_;refine qo (fun K hK=>?_) ?_;rotate_left 1
 · exact af
 go_simp
 refine(HC.c1 _ (hI0.at bl)).mono ?_;rintro e v1 ⟨rfl,hI1⟩;clear hHeld;refine hK.out _ _ (show((fun(W:Z)=>iI w P x n13 W)) _ from(HC.fs _ _ _ hI1 bl)) (fun hHeld=>?_);clear hK K
 (try simp only[X,sA,sB,sC])
 refine qR [8] ?_;refine qo (fun K hK=>?_) ?_;rotate_left 1
 · exact af
 go_simp
 refine(HC.c2 _ (hI1.at bl)).mono ?_;rintro e v2 ⟨rfl,hI2⟩;clear hHeld;refine hK.out _ _ (show((fun(W:Z)=>iI w P x n13 W)) _ from(HC.fs _ _ _ hI2 bl)) (fun hHeld=>?_);clear hK K
 (try simp only[X,sA,sB,sC])
 refine qR [12] ?_;refine qo (fun K hK=>?_) ?_;rotate_left 1
 · exact af
 go_simp
 refine(HC.c3 _ (hI2.at bl)).mono ?_;rintro e v3 ⟨rfl,Y2⟩;clear hHeld;refine hK.out _ _ (show((fun(W:Z)=>iI w P x n13 W)) _ from(HC.fs _ _ _ Y2 bl)) (fun hHeld=>?_);clear hK K
 (try simp only[X,sA,sB,sC])
 refine qR [16] ?_;refine qo (fun K hK=>?_) ?_;rotate_left 1
 · exact af
 go_simp
 refine(HC.c4 _ (Y2.at bl)).mono ?_;rintro e v4 ⟨rfl,Y3⟩;clear hHeld;refine hK.out _ _ (show((fun(W:Z)=>iI w P x n13 W)) _ from(HC.fs _ _ _ Y3 bl)) (fun hHeld=>?_);clear hK K
 (try simp only[X,sA,sB,sC])
 refine qR [21] ?_;refine qo (fun K hK=>?_) ?_;rotate_left 1
 · exact af
 go_simp
 refine(HC.c5 _ (Y3.at bl)).mono ?_;rintro e v5 ⟨rfl,Y4⟩;clear hHeld;refine hK.out _ _ (show((fun(W:Z)=>iI w P x n13 W)) _ from(HC.fs _ _ _ Y4 bl)) (fun hHeld=>?_);clear hK K
 (try simp only[X,sA,sB,sC])
 refine qR [26] ?_;refine qo (fun K hK=>?_) ?_;rotate_left 1
 · exact af
 go_simp
 refine(HC.c6 _ (Y4.at bl)).mono ?_;rintro e v6 ⟨rfl,Y5⟩;clear hHeld;refine hK.out _ _ (show((fun(W:Z)=>iI w P x n13 W)) _ from(HC.fs _ _ _ Y5 bl)) (fun hHeld=>?_);clear hK K
 (try simp only[X,sA,sB,sC])
 refine qR [31] ?_;refine qo (fun K hK=>?_) ?_;rotate_left 1
 · exact af
 go_simp
 refine(HC.c7 _ (Y5.at bl)).mono ?_;rintro e v7 ⟨rfl,Y6⟩;clear hHeld;refine hK.out _ _ (show((fun(W:Z)=>iI w P x n13 W)) _ from(HC.fs _ _ _ Y6 bl)) (fun hHeld=>?_);clear hK K
 (try simp only[X,sA,sB,sC])
 refine qR [36] ?_;refine qo (fun K hK=>?_) ?_;rotate_left 1
 · exact af
 go_simp
 refine(HC.c8 _ (Y6.at bl)).mono ?_;rintro e v8 ⟨rfl,Y7⟩;clear hHeld;refine hK.out _ _ (show((fun(W:Z)=>iI w P x n13 W)) _ from(HC.fs _ _ _ Y7 bl)) (fun hHeld=>?_);clear hK K
 (try simp only[X,sA,sB,sC])
 refine qR [41] ?_;refine qo (fun K hK=>?_) ?_;rotate_left 1
 · exact af
 go_simp
 refine(HC.c9 _ (Y7.at bl)).mono ?_;rintro e v9 ⟨rfl,Y8⟩;clear hHeld;refine hK.out _ _ (show((fun(W:Z)=>iI w P x n13 W)) _ from(HC.fs _ _ _ Y8 bl)) (fun hHeld=>?_);clear hK K
 (try simp only[X,sA,sB,sC])
 refine qR [45] ?_;refine qo (fun K hK=>?_) ?_;rotate_left 1
 · exact af
 go_simp
 refine(HC.c10 _ (Y8.at bl)).mono ?_;rintro e v10 ⟨rfl,Y0⟩;clear hHeld;refine hK.out _ _ (show((fun(W:Z)=>iI w P x n13 W)) _ from(HC.fs _ _ _ Y0 bl)) (fun hHeld=>?_);clear hK K
 (try simp only[X,sA,sB,sC])
 refine qR [49] ?_;refine qo (fun K hK=>?_) ?_;rotate_left 1
 · exact af
 go_simp
 refine(HC.c11 _ (Y0.at bl)).mono ?_;rintro e v11 ⟨rfl,Y1⟩;clear hHeld;refine hK.out _ _ (show((fun(W:Z)=>iI w P x n13 W)) _ from(HC.fs _ _ _ Y1 bl)) (fun hHeld=>?_);clear hK K
 (try simp only[X,sA,sB,sC])
 refine qR [51] ?_;refine qo (fun K hK=>?_) ?_;rotate_left 1
 · exact af
 go_simp
 refine(HC.c12 _ (Y1.at bl)).mono ?_;rintro e v12 ⟨rfl,Lh⟩;clear hHeld;refine hK.out _ _ (show((fun(W:Z)=>iI w P x n13 W)) _ from(HC.fs _ _ _ Lh bl)) (fun hHeld=>?_);clear hK K
 (try simp only[X,sA,sB,sC])
 refine qR [52] ?_;refine qo (fun K hK=>?_) ?_;rotate_left 1
 · exact af
 go_simp
 clear hHeld;refine hK.out _ _ (show((fun(W:Z)=>iI w P x n13 W)) _ from(HC.fs _ _ _ Lh bl)) (fun hHeld=>?_);clear hK K
 (try simp only[X,sA,sB,sC])
 refine qR [53] ?_;refine qo (fun K hK=>?_) ?_;rotate_left 1
 · exact af
 go_simp
 refine(ow [e1,e2,e3,e4,e5,e6,e7,e8,e9,e10,e11,e12] _ 12 12 _ rfl bT (hid (afX _ _ _ _ _ _ _ _ _ _ _ _ _ _))).mono ?_;rintro e w9 ⟨rfl,rfl⟩;clear hHeld;refine hK.out _ _ (show((fun(W:Z)=>iI w P x n13 W)) _ from(HC.fs _ _ _ Lh bl)) (fun hHeld=>?_);clear hK K
 (try simp only[X,sA,sB,sC])
 refine wpAnyH_take (i:=54) (oi:={ dst:=Y 2,op:=Op.assign (Operand.tmp 58),type:=27,pos := "model.go:185",after:=#[{ on:=53,ground:=Ground.data },{ on:=53,ground:=Ground.chain },{ on:=0,ground:=U },{ on:=1,ground:=U },{ on:=2,ground:=U },{ on:=3,ground:=U },{ on:=4,ground:=U },{ on:=5,ground:=U },{ on:=6,ground:=U },{ on:=7,ground:=U },{ on:=8,ground:=U },{ on:=9,ground:=U },{ on:=10,ground:=U },{ on:=11,ground:=U },{ on:=12,ground:=U },{ on:=13,ground:=U },{ on:=14,ground:=U },{ on:=15,ground:=U },{ on:=16,ground:=U },{ on:=17,ground:=U },{ on:=18,ground:=U },{ on:=19,ground:=U },{ on:=20,ground:=U },{ on:=21,ground:=U },{ on:=22,ground:=U },{ on:=23,ground:=U },{ on:=24,ground:=U },{ on:=25,ground:=U },{ on:=26,ground:=U },{ on:=27,ground:=U },{ on:=28,ground:=U },{ on:=29,ground:=U },{ on:=30,ground:=U },{ on:=31,ground:=U },{ on:=32,ground:=U },{ on:=33,ground:=U },{ on:=34,ground:=U },{ on:=35,ground:=U },{ on:=36,ground:=U },{ on:=37,ground:=U },{ on:=38,ground:=U },{ on:=39,ground:=U },{ on:=40,ground:=U },{ on:=41,ground:=U },{ on:=42,ground:=U },{ on:=43,ground:=U },{ on:=44,ground:=U },{ on:=45,ground:=U },{ on:=46,ground:=U },{ on:=47,ground:=U },{ on:=48,ground:=U },{ on:=49,ground:=U },{ on:=50,ground:=U },{ on:=51,ground:=U },{ on:=52,ground:=U },{ on:=53,ground:=U }],guard:=A }) (v:=(.int .i64 (gP [e1,e2,e3,e4,e5,e6,e7,e8,e9,e10,e11,e12]):ag)) rfl dx dx dx (fun _ _ _ h=>h) (Or.inl ⟨by rfl,?_⟩) (by assumption) ?_
 · exact kY
 try simp only[X,sA,sB,sC]
 refine wpAnyH_done dx ?_ _;refine NoPanic.normal ?_;have ad6:=hid Lh.below;go_wp2_with fail;go_ret;exact⟨by rw[← hV.out];rfl,by have bY:=ad6.out;exact bl⟩
theorem aga (hK:uk) (x:cz) (P:eP) (w:Z) (hx:iL (Lo w.heap.size) w x P) (hz:Ay x):ah ae 94 #[.agg (b_ x P)] w (Gives (.int .i64 (Fv x)) w):=by
 obtain⟨n13,ji⟩:∃n:Nat,13=n:=⟨_,rfl⟩
 obtain⟨e1,e2,e3,e4,e5,e6,e7,e8,e9,e10,e11,e12,a1,a2,a3,a4,a5,a6,a7,a8,a9,mP,HC,HT⟩:=ani hK x P w hx hz n13 ji;rw[HT];exact anj x P w n13 (fun w=>by rw[sizeOf54,ji]) e1 e2 e3 e4 e5 e6 e7 e8 e9 e10 e11 e12 a1 a2 a3 a4 a5 a6 a7 a8 a9 mP HC
end Md
namespace Md
open Go.RowKit Go.Maps
open Na (bs fB)
open Sm (rU gP ow)
open Ex (Lo Gives)
theorem ank (hK:uk) (l:List cz) (p:Option Addr) (m c:Nat) (w0:Z) (hx:Rw 13 gK (Lo w0.heap.size) w0 l p m) (hz:∀x∈l,Ay x) (b B1:Nat) (hb:w0.heap.size<=b) (h1:B1≠b) (W:Z) (hW:fK w0 b (fun V=>V.cell? ⟨B1,0,A⟩=Y (.map (Y b))) [] W) :
 ah ae 92 #[.slice p m c,.int .i64 ((16:Nat):Int),.func (.func 93) #[] #[.pointer (Y ⟨B1,0,A⟩)]] W (fun e W2=>e=.returned (.int .i64 (df eB 16 (l.map IX) []).1)/\ai w0.heap.size w0 W2):=by
 have hSt:qI b (fun V=>V.cell? ⟨B1,0,A⟩=Y (.map (Y b))):=fun V V2 h hbt=>wD hbt h h1;rw[n_];refine(ahv (hid hx) #[] #[.pointer (Y ⟨B1,0,A⟩)] _ (hid (fK.fine hb hSt)) (fun a l=>eB a (IX l)) 16 bT [] (hid fun k s x c V hxk hm hg hR hI=>?_) W (hid hW)).mono fun e W2 h=>⟨h.1,h.2.below⟩
 rw[Ei];obtain⟨Q,rfl,hQ⟩:=hR;have hsh:=zC hm hg;have hzx:=hz x (List.mem_of_getElem? hxk);have hl0:s.length<=0+16:=hsh;refine(agF x Q b B1 s V hI.tN bT hzx.nm hI.k h1 (Fv x) (hid fun V2 hbt=>?_)).mono fun e W2 h=>hI.step hb hSt h;have hb2:ai w0.heap.size w0 V2:=But.below hI.below hbt hb hI.below.size;exact aga hK x Q V2 ((hQ.below (Pf hI.below hbt hb)).up hb2.size) hzx
theorem agb (hK:uk) (l:List cz) (p:Option Addr) (m c:Nat) (w:Z) (hx:Rw 13 gK (Lo w.heap.size) w l p m) (hz:∀x∈l,Ay x):ah ae 56 #[.slice p m c] w (Gives (.int .i64 (if l.length=0 then 7 else (df eB 16 (l.map IX) []).1)) w):=by
 obtain⟨hl,hm⟩:=hx.len;have hmm:=@run_makeMap ae;by_cases h0:m=0
 · rw[if_pos bT];subst h0;clear hx hz hl hm;go_enter func56,ntmps56;exact dX
 · rw[if_neg bT];obtain⟨v,hv⟩:∃v,(df eB 16 (l.map IX) []).1=v:=⟨_,rfl⟩
   have CE:=hid (fun W (h1:ai w.heap.size w W) (h2:il w.heap.size [] W) (h3:W.cell? ⟨w.heap.size+1,0,A⟩=Y (.map (Y w.heap.size)))=>(show ah ae 92 #[.slice p m c,.int .i64 16,.func (.func 93) #[] #[.pointer (Y ⟨w.heap.size+1,0,A⟩)]] W (Oi w (.int .i64 v)) by
    rw[← hv];exact ank hK l p m c w hx hz w.heap.size (w.heap.size+1) bT bT W ⟨h1,h2,h3⟩))
   have d0:¬(m:Int)=0:=by omega
   rw[hv];clear hx hz hl hm hv h0;go_enter func56,ntmps56;go_wp2_with fail;refine(CE.out _ bl ((IV (w:=w) rfl).on bl) (by go_simp)).mono ?_;exact Uy
structure Vh (x:dL):Prop where
 nm:x.nm.size<=9223372036854775807
 pa:∀y∈x.pa,y.nm.size<=9223372036854775807
 si:∀y∈x.si,Ay y
 li:∀l∈x.li,l.fr.size<=1000000000/\l.tt.size<=1000000000
structure oF (w:Z) (P:k_) (x:dL) (n4:Nat) (W:Z):Prop where
 f0:W.cell? ⟨w.heap.size,0,A⟩=Y (.string x.nm)
 f1:W.cell? ⟨w.heap.size,1,A⟩=Y (.slice P.pap P.Dh P.Dg)
 f2:W.cell? ⟨w.heap.size,2,A⟩=Y (.slice P.yR P.xE P.Bh)
 ld:(loadCellsFrom ⟨w.heap.size,0,A⟩ 0 n4 #[]).run ae W=.ok (dS x P) W
structure MdC (w:Z) (P:k_) (x:dL) (n4:Nat) (v1 v2 v3 v4:Int):Prop where
 c1:∀W,ai w.heap.size w W->ah ae 53 #[.string x.nm] W (Gives (.int .i64 v1) W)
 c2:∀W b,(w.alloc (.cells (dS x P) 40)).heap.size<=b->ai (w.alloc (.cells (dS x P) 40)).heap.size (w.alloc (.cells (dS x P) 40)) W->il b [] W->ah ae 54 #[.slice P.pap P.Dh P.Dg,.int .i64 32,.func (.func 55) #[.map (Y b)] #[]] W (fun e W2=>e=.returned (.int .i64 v2)/\ai (w.alloc (.cells (dS x P) 40)).heap.size (w.alloc (.cells (dS x P) 40)) W2)
 c3:∀W,ai w.heap.size w W->ah ae 56 #[.slice P.yR P.xE P.Bh] W (Gives (.int .i64 v3) W)
 c4:∀W,ai w.heap.size w W->ah ae 57 #[.agg (dS x P)] W (Gives (.int .i64 v4) W)
 fs:∀W,ai (w.alloc (.cells (dS x P) 40)).heap.size (w.alloc (.cells (dS x P) 40)) W->oF w P x n4 W
theorem afY (w:Z) (t:TypeId) (r0 r1 r2 r3:Int):∀i,(h:i<[r0,r1,r2,r3].length)->(w.alloc (.cells #[.int .i64 r0,.int .i64 r1,.int .i64 r2,.int .i64 r3] t)).cell? ⟨w.heap.size,i,A⟩=Y (.int .i64 [r0,r1,r2,r3][i]):=by
 intro i h;rw[World.cell?_alloc_mark]
 match i,h with
 | 0,_=>rfl
 | 1,_=>rfl
 | 2,_=>rfl
 | 3,_=>rfl
theorem Jn {p:Prop} (h:p:=by
 clear hHeld HC hmm
 first|(go_simp;done)|(go_simp;with_reducible rfl)|(go_simp;rfl)
 ):p:=h
theorem FZ {p:Prop} (h:p:=by
 intro W2 hS2;replace hS2:=(show oF w P x n4 W2 from hS2)
 exact Jn
 ):p:=h
theorem adt {p:Prop} (h:p:=by
 rintro e u2 ⟨rfl,hb2⟩;clear hHeld;refine hK.out _ _ (show((fun(W:Z)=>oF w P x n4 W)) _ from HC.fs _ bl) (fun hHeld=>?_);clear hK K
 try simp only[X,sA,sB,sC]
 refine hcall 10 (fun K hK=>?_)
 go_simp
 refine(HC.c3 _ bl).mono ?_;rintro e u3 ⟨rfl,hb3⟩;clear hHeld;refine hK.out _ _ (show((fun(W:Z)=>oF w P x n4 W)) _ from HC.fs _ bl) (fun hHeld=>?_);clear hK K
 try simp only[X,sA,sB,sC]
 refine hcall 12 (fun K hK=>?_)
 go_simp
 refine(HC.c4 _ bl).mono ?_;rintro e u4 ⟨rfl,hb4⟩;clear hHeld;refine hK.out _ _ (show((fun(W:Z)=>oF w P x n4 W)) _ from HC.fs _ bl) (fun hHeld=>?_);clear hK K
 try simp only[X,sA,sB,sC]
 refine hcall 13 (fun K hK=>?_)
 go_simp
 clear hHeld;refine hK.out _ _ (show((fun(W:Z)=>oF w P x n4 W)) _ from HC.fs _ bl) (fun hHeld=>?_);clear hK K
 try simp only[X,sA,sB,sC]
 refine hcall 14 (fun K hK=>?_)
 go_simp
 refine(ow [v1,v2,v3,v4] _ 4 4 _ rfl bT (hid (afY _ _ _ _ _ _))).mono ?_;rintro e w9 ⟨rfl,rfl⟩;clear hHeld;refine hK.out _ _ (show((fun(W:Z)=>oF w P x n4 W)) _ from HC.fs _ bl) (fun hHeld=>?_);clear hK K
 try simp only[X,sA,sB,sC]
 refine wpAnyH_take (i:=15) (oi:={ dst:=Y 2,op:=Op.assign (Operand.tmp 17),type:=27,pos := "model.go:24",after:=#[{ on:=14,ground:=Ground.data },{ on:=14,ground:=Ground.chain },{ on:=0,ground:=U },{ on:=1,ground:=U },{ on:=2,ground:=U },{ on:=3,ground:=U },{ on:=4,ground:=U },{ on:=5,ground:=U },{ on:=6,ground:=U },{ on:=7,ground:=U },{ on:=8,ground:=U },{ on:=9,ground:=U },{ on:=10,ground:=U },{ on:=11,ground:=U },{ on:=12,ground:=U },{ on:=13,ground:=U },{ on:=14,ground:=U }],guard:=A }) (v:=(.int .i64 (gP [v1,v2,v3,v4]):ag)) rfl dx dx dx (fun _ _ _ h=>h) (Or.inl ⟨by rfl,?_⟩) (by assumption) ?_
 · exact FZ
 try simp only[X,sA,sB,sC]
 refine wpAnyH_done dx ?_ _;refine NoPanic.normal ?_;exact dX
 ):p:=h
theorem agj (x:dL) (P:k_) (w:Z) (n4:Nat) (ai7:∀w,(sizeOf 40).run ae w=.ok n4 w) (v1 v2 v3 v4:Int) (HC:MdC w P x n4 v1 v2 v3 v4):ah ae 25 #[.agg (dS x P)] w (Gives (.int .i64 (gP [v1,v2,v3,v4])) w):=by
 have hmm:=@run_makeMap ae;go_enter func25,ntmps25;go_wp2_with fail;refine wp_region_noPanic ?_;refine wp_region_held_drew (S:=(fun(W:Z)=>oF w P x n4 W)) dx (show((fun(W:Z)=>oF w P x n4 W)) _ from HC.fs _ bl) (fun hHeld=>?_);refine htake 0 ((.pointer (Y ⟨w.heap.size,0,A⟩):ag)) (hy:=?_) (h:=?_)
 · exact FZ
 try simp only[X,sA,sB,sC]
 refine htake 1 ((.string x.nm:ag)) (hy:=?_) (h:=?_)
 · intro W2 hS2;replace hS2:=(show oF w P x n4 W2 from hS2)
   have qf0:=hS2.f0;exact Jn
 try simp only[X,sA,sB,sC]
 refine htake 3 ((.pointer (Y ⟨w.heap.size,1,A⟩):ag)) (hy:=?_) (h:=?_)
 · exact FZ
 try simp only[X,sA,sB,sC]
 refine htake 4 ((.slice P.pap P.Dh P.Dg:ag)) (hy:=?_) (h:=?_)
 · intro W2 hS2;replace hS2:=(show oF w P x n4 W2 from hS2)
   have qf1:=hS2.f1;exact Jn
 try simp only[X,sA,sB,sC]
 refine htake 8 ((.pointer (Y ⟨w.heap.size,2,A⟩):ag)) (hy:=?_) (h:=?_)
 · exact FZ
 try simp only[X,sA,sB,sC]
 refine htake 9 ((.slice P.yR P.xE P.Bh:ag)) (hy:=?_) (h:=?_)
 · intro W2 hS2;replace hS2:=(show oF w P x n4 W2 from hS2)
   have qf2:=hS2.f2;exact Jn
 try simp only[X,sA,sB,sC]
 refine htake 11 ((.agg (dS x P):ag)) (hy:=?_) (h:=?_)
 · intro W2 hS2;replace hS2:=(show oF w P x n4 W2 from hS2)
   have qld:=hS2.ld;exact Jn
 try simp only[X,sA,sB,sC]
 refine qR [2,5] ?_;refine qo (fun K hK=>?_) ?_;rotate_left 1
 · refine qo (fun K hK=>?_) af
   go_simp
   clear hHeld;refine hK.out _ _ (show((fun(W:Z)=>oF w P x n4 W)) _ from HC.fs _ bl) (fun hHeld=>?_);clear hK K
   try simp only[X,sA,sB,sC]
   refine htake 6 ((.func (.func 55) #[.map (Y (w.heap.size+1))] #[]:ag)) (hy:=?_) (h:=?_)
   · exact FZ
   try simp only[X,sA,sB,sC]
   refine hcall 2 (fun K hK=>?_)
   go_simp
   refine(HC.c1 _ bl).mono ?_;rintro e u1 ⟨rfl,hb1⟩;clear hHeld;refine hK.out _ _ (show((fun(W:Z)=>oF w P x n4 W)) _ from HC.fs _ bl) (fun hHeld=>?_);clear hK K
   try simp only[X,sA,sB,sC]
   refine hcall 7 (fun K hK=>?_)
   go_simp
   refine(HC.c2 _ _ cK bl ((IV (w:=(w.alloc (.cells (dS x P) 40))) (n:=w.heap.size+1) cK).on bl)).mono ?_;exact adt
 go_simp
 refine(HC.c1 _ bl).mono ?_;rintro e u1 ⟨rfl,hb1⟩;clear hHeld;refine hK.out _ _ (show((fun(W:Z)=>oF w P x n4 W)) _ from HC.fs _ bl) (fun hHeld=>?_);clear hK K
 try simp only[X,sA,sB,sC]
 refine hcall 5 (fun K hK=>?_)
 go_simp
 clear hHeld;refine hK.out _ _ (show((fun(W:Z)=>oF w P x n4 W)) _ from HC.fs _ bl) (fun hHeld=>?_);clear hK K
 try simp only[X,sA,sB,sC]
 refine htake 6 ((.func (.func 55) #[.map (Y u1.heap.size)] #[]:ag)) (hy:=?_) (h:=?_)
 · exact FZ
 try simp only[X,sA,sB,sC]
 refine hcall 7 (fun K hK=>?_)
 go_simp
 refine(HC.c2 _ _ (show ai (w.alloc (.cells (dS x P) 40)).heap.size (w.alloc (.cells (dS x P) 40)) u1 by exact bl).size bl ((IV (w:=u1) rfl).on bl)).mono ?_;exact adt
theorem nZ (hK:uk) (x:dL) (P:k_) (w:Z) (hx:jB (Lo w.heap.size) w x P) (hz:Vh x):ah ae 25 #[.agg (dS x P)] w (Gives (.int .i64 (zM x)) w):=by
 obtain⟨n4,oo⟩:∃n:Nat,4=n:=⟨_,rfl⟩
 have FX:=far (w:=w) 40 (dS x P);have hb1:ai w.heap.size w (w.alloc (.cells (dS x P) 40)):=bl;rw[show zM x=gP [fB (bs x.nm),aaV x,abM x,Iq x] by unfold zM;simp only[gP,rU]];refine agj x P w n4 (fun w=>by rw[sizeOf40,oo]) _ _ _ _ ⟨fun W hW=>?_,fun W b hb hW hS=>?_,fun W hW=>?_,fun W hW=>?_,fun W hW=>?_⟩
 · exact Na.nZ x.nm W hz.nm
 · exact(Xr (c:=P.Dg) (K:=fun _=>True) hb (qI.top b) (hx.on hb1).pa hz.pa 32 bT [] cK W ⟨hW,hS,trivial⟩).mono fun e W2 h=>⟨h.1,h.2.below⟩
 · exact agb hK x.si P.yR P.xE P.Bh W (hx.on hW).si hz.si
 · exact af7 x P W (hx.on hW) hz.li
 · have q:=FX.out W hW;exact⟨q.get (Pj x P),q.get (Pk x P),q.get (Pm x P),q.cell.fZ oo⟩
end Md
namespace Md
open Go.ChangeShapes Go.WideShapes Go.ChangeAt Go.RowKit Go.Joins Go.Deep
open Sm (eF)
structure Fit (x:dL):Prop where
 z:Vh x
 n:∀y∈x.si,OB y
 c:∀y∈x.si,∀r∈y.ro,eF r.bo<=4000000
end Md
end Go.Proofs.YtkpekhpgdajabaaGreatDoor
