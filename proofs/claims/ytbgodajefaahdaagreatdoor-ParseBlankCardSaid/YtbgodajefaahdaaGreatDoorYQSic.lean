/-
  Parts of this proof: The contract of checkSite; what Kind gives is as. The walk of checkSite. The contracts of checkSites and of Check.
-/
import Derived.Test.YtbgodajefaahdaaGreatDoorYPChk1
import Derived.Test.YtbgodajefaahdaaGreatDoorYQLws
open Go.Ground renaming phase->U
open Go.Act renaming put->X
open Go.Proofs.Tryz renaming prog->ae
open Option renaming some->Y,none->A
open Go renaming World->Z,Value->ag,Calls->ah
open Go.AllReadyH renaming nil->af
open Go.RowKit renaming Below->ai
open Nat renaming lt_of_lt_of_le->aj
set_option linter.unusedSimpArgs false
set_option linter.unusedVariables false
open Go.Lib (hid)
namespace Go.Proofs.YtbgodajefaahdaaGreatDoor
namespace Md
open Go.RowKit Go.Maps
open Sm (um CY ic)
open Ex (Lo)
set_option maxHeartbeats 8000000
structure B_ (x:b_):Prop where
 va:∀y∈x.va,y.nm.size<=9223372036854775807
 rs:∀y∈x.rs,y.nm.size<=9223372036854775807
 st:∀y∈x.st,y.nm.size<=9223372036854775807
 be:∀y∈x.be,y.nm.size<=9223372036854775807
 qu:∀y∈x.qu,y.size<=9223372036854775807
 sm:∀y∈x.sm,y.size<=9223372036854775807
 ta:∀y∈x.ta,y.size<=9223372036854775807
 le:∀y∈x.le,y.size<=9223372036854775807
 co:∀y∈x.co,y.size<=9223372036854775807
 ro:∀y∈x.ro,MV y
 la:∀y∈x.la,y.nm.size<=9223372036854775807
 nm:x.nm.size<=9223372036854775807
def KS (b B1 B2:Nat) (c:Array ag) (V:Z):Prop:=V.cell? ⟨B1,0,A⟩=Y (.map (Y b))/\bT V B2 53 c
theorem KS.Ha {b B1 B2:Nat} {c:Array ag} (h1:B1≠b) (h2:B2≠b):rT b (KS b B1 B2 c):=fun V V2 h hbt=>⟨xY hbt h.1 h1,h.2.but hbt h2⟩
theorem fZ.at {w0:Z} {b:Nat} {K:Z->Prop} (hb:w0.heap.size<=b) (hK:rT b K) {acc:List ByteArray} {W W2:Z} (h:fZ w0 b K acc W) (hW:ai W.heap.size W W2):fZ w0 b K acc W2:=(fZ.fine hb hK).on acc W W2 h hW
theorem m_.below {B:Nat} {w w2:Z} (hb:ai B w w2) {x:dm} {P:eO} (h:m_ (Lo B) w x P):m_ (Lo B) w2 x P:=h.map hb.size fun b g _=>⟨g,hb.block b g⟩
theorem m_.up {B:Nat} {w:Z} (hs:B<=w.heap.size) {x:dm} {P:eO} (h:m_ (Lo B) w x P):m_ (Lo w.heap.size) w x P:=h.map (Nat.le_refl _) fun b g _=>⟨aj g hs,rfl⟩
theorem qw.below {B:Nat} {w w2:Z} (hb:ai B w w2) {x:eQ} {P:qV} (h:qw (Lo B) w x P):qw (Lo B) w2 x P:=h.map hb.size fun b g _=>⟨g,hb.block b g⟩
theorem qw.up {B:Nat} {w:Z} (hs:B<=w.heap.size) {x:eQ} {P:qV} (h:qw (Lo B) w x P):qw (Lo w.heap.size) w x P:=h.map (Nat.le_refl _) fun b g _=>⟨aj g hs,rfl⟩
theorem kH {p:Prop} (h:p:=by omega):p:=h
theorem Sv {w0 V V2:Z} {b:Nat} (hV:ai w0.heap.size w0 V) (hbt:But b V V2) (hb:w0.heap.size<=b):ai w0.heap.size V V2:=⟨hbt.os,hbt.tape,hbt.output,hbt.size,fun k hk=>hbt.block k (aj hk hV.size) kH⟩
section
variable {w0:Z} {b B1 B2:Nat} {x:b_} {P:fe} (hx:iT (Lo w0.heap.size) w0 x P) (hz:B_ x) (hb:w0.heap.size<=b) (h1:B1≠b) (h2:B2≠b)
include hx hz hb h1 h2
theorem alx {s0:List ByteArray} (h0:s0.length<=50000) (W:Z) (hW:fZ w0 b (KS b B1 B2 (bX x P)) s0 W) :
 ah ae 109 #[.slice P.jD P.dS P.gq,.int .i64 ((32:Nat):Int),.func (.func 110) #[] #[.pointer (Y ⟨B1,0,A⟩),.pointer (Y ⟨B2,0,A⟩)]] W (Does (fZ w0 b (KS b B1 B2 (bX x P))) (dh ek 32 (x.rs.map (KG x.sm)) s0)):=by
 have hSt:=KS.Ha (c:=bX x P) h1 h2;rw[pQ];refine alj (hid hx.rs) #[] #[.pointer (Y ⟨B1,0,A⟩),.pointer (Y ⟨B2,0,A⟩)] _ (hid (fZ.fine hb hSt)) (fun a l=>ek a (KG x.sm l)) 32 kH s0 (hid fun k s l c V hxk hm hg hR hI=>?_) W (hid hW);rw[R_];obtain⟨Q,rfl,hQ⟩:=hR;have hsh:=AA hm hg;refine(akr l Q b B1 s V hI.vR kH (hz.rs l (List.mem_of_getElem? hxk)) hI.k.1 h1 B2 P.sU P.sS P.sQ (hI.k.2.get (Gh x P)) h2 (Bg x.sm l) (hid fun V2 hbt=>?_)).mono fun e W2 h=>hI.step hb hSt h;have hb2:ai w0.heap.size w0 V2:=But.below hI.below hbt hb hI.below.size;exact ajY l Q x.sm P.sU P.sS P.sQ V2 ((hQ.below (Sv hI.below hbt hb)).up hb2.size) (Rw.strs (hx.sm.below dP.map hb2))
theorem aly {s0:List ByteArray} (h0:s0.length<=50000) (W:Z) (hW:fZ w0 b (KS b B1 B2 (bX x P)) s0 W) :
 ah ae 112 #[.slice P.jT P.dD P.kD,.int .i64 ((32:Nat):Int),.func (.func 113) #[] #[.pointer (Y ⟨B1,0,A⟩)]] W (Does (fZ w0 b (KS b B1 B2 (bX x P))) (dh ek 32 (x.st.map Lh) s0)):=by
 have hSt:=KS.Ha (c:=bX x P) h1 h2;rw[pQ];refine alo (hid hx.st) #[] #[.pointer (Y ⟨B1,0,A⟩)] _ (hid (fZ.fine hb hSt)) (fun a l=>ek a (Lh l)) 32 kH s0 (hid fun k s l c V hxk hm hg hR hI=>?_) W (hid hW);rw[F3,show c=lD l from hR];have hsh:=AA hm hg;exact(aku l b B1 s V hI.vR kH (hz.st l (List.mem_of_getElem? hxk)) hI.k.1 h1 (yJ l) (hid fun V2 hbt=>aj4 l V2)).mono fun e W2 h=>hI.step hb hSt h
theorem als {s0:List ByteArray} (h0:s0.length<=50000) (W:Z) (hW:fZ w0 b (KS b B1 B2 (bX x P)) s0 W) :
 ah ae 115 #[.slice P.kJ P.eF P.kV,.int .i64 ((32:Nat):Int),.func (.func 116) #[] #[.pointer (Y ⟨B1,0,A⟩)]] W (Does (fZ w0 b (KS b B1 B2 (bX x P))) (dh ek 32 (x.be.map I_) s0)):=by
 have hSt:=KS.Ha (c:=bX x P) h1 h2;rw[pQ];refine alf (hid hx.be) #[] #[.pointer (Y ⟨B1,0,A⟩)] _ (hid (fZ.fine hb hSt)) (fun a l=>ek a (I_ l)) 32 kH s0 (hid fun k s l c V hxk hm hg hR hI=>?_) W (hid hW);rw[F3,show c=lC l from hR];have hsh:=AA hm hg;exact(ako l b B1 s V hI.vR kH (hz.be l (List.mem_of_getElem? hxk)) hI.k.1 h1 (xV l) (hid fun V2 hbt=>ajS l V2)).mono fun e W2 h=>hI.step hb hSt h
theorem alv {s0:List ByteArray} (h0:s0.length<=50000) (W:Z) (hW:fZ w0 b (KS b B1 B2 (bX x P)) s0 W) :
 ah ae 119 #[.slice P.mi P.ed P.k_,.int .i64 ((16:Nat):Int),.func (.func 120) #[] #[.pointer (Y ⟨B1,0,A⟩)]] W (Does (fZ w0 b (KS b B1 B2 (bX x P))) (dh ek 16 (x.ro.map KH) s0)):=by
 have hSt:=KS.Ha (c:=bX x P) h1 h2;rw[pQ];refine alk (hid hx.ro) #[] #[.pointer (Y ⟨B1,0,A⟩)] _ (hid (fZ.fine hb hSt)) (fun a l=>ek a (KH l)) 16 kH s0 (hid fun k s l c V hxk hm hg hR hI=>?_) W (hid hW);rw[F3];obtain⟨Q,rfl,hQ⟩:=hR;have hsh:=AA hm hg;have hzr:=hz.ro l (List.mem_of_getElem? hxk);refine(aks l Q b B1 s V hI.vR kH hzr.nm hI.k.1 h1 (Bi l) (hid fun V2 hbt=>?_)).mono fun e W2 h=>hI.step hb hSt h;have hb2:ai w0.heap.size w0 V2:=But.below hI.below hbt hb hI.below.size;exact ajZ l Q V2 ((hQ.below (Sv hI.below hbt hb)).up hb2.size) hzr
end
theorem ajM (w:Z) (t:TypeId) (r0 r1 r2 r3 r4 r5 r6 r7 r8 r9 jC rF:Int):∀i,(h:i<[r0,r1,r2,r3,r4,r5,r6,r7,r8,r9,jC,rF].length)->(w.alloc (.cells #[.int .i64 r0,.int .i64 r1,.int .i64 r2,.int .i64 r3,.int .i64 r4,.int .i64 r5,.int .i64 r6,.int .i64 r7,.int .i64 r8,.int .i64 r9,.int .i64 jC,.int .i64 rF] t)).cell? ⟨w.heap.size,i,A⟩=Y (.int .i64 [r0,r1,r2,r3,r4,r5,r6,r7,r8,r9,jC,rF][i]):=by
 intro i h;rw[World.cell?_alloc_mark]
 match i,h with
 | 0,_=>rfl
 | 1,_=>rfl
 | 2,_=>rfl
 | 3,_=>rfl
 | 4,_=>rfl
 | 5,_=>rfl
 | 6,_=>rfl
 | 7,_=>rfl
 | 8,_=>rfl
 | 9,_=>rfl
 | 10,_=>rfl
 | 11,_=>rfl
structure jf (w:Z) (P:fe) (x:b_) (n13:Nat) (W:Z):Prop where
 f1:W.cell? ⟨w.heap.size,1,A⟩=Y (.slice P.jb P.ja P.i_)
 f2:W.cell? ⟨w.heap.size,2,A⟩=Y (.slice P.jD P.dS P.gq)
 f3:W.cell? ⟨w.heap.size,3,A⟩=Y (.slice P.jT P.dD P.kD)
 f4:W.cell? ⟨w.heap.size,4,A⟩=Y (.slice P.kJ P.eF P.kV)
 f5:W.cell? ⟨w.heap.size,5,A⟩=Y (.slice P.vQ P.vP P.vO)
 f6:W.cell? ⟨w.heap.size,6,A⟩=Y (.slice P.sU P.sS P.sQ)
 f7:W.cell? ⟨w.heap.size,7,A⟩=Y (.slice P.vU P.vT P.tac)
 f8:W.cell? ⟨w.heap.size,8,A⟩=Y (.slice P.vE P.vD P.vC)
 f9:W.cell? ⟨w.heap.size,9,A⟩=Y (.slice P.uZ P.uY P.uX)
 f10:W.cell? ⟨w.heap.size,10,A⟩=Y (.slice P.mi P.ed P.k_)
 f11:W.cell? ⟨w.heap.size,11,A⟩=Y (.slice P.qi P.fG P.nI)
 f12:W.cell? ⟨w.heap.size+1+1,0,A⟩=Y (.map (Y (w.heap.size+1)))
 f13:(loadCellsFrom ⟨w.heap.size,0,A⟩ 0 n13 #[]).run ae W=.ok (bX x P) W
def eD (w:Z) (x:b_) (P:fe) (acc:List ByteArray) (W:Z):Prop:=fZ w (w.heap.size+1) (KS (w.heap.size+1) (w.heap.size+1+1) w.heap.size (bX x P)) acc W
theorem eD.at {w:Z} {x:b_} {P:fe} {acc:List ByteArray} {V W:Z} (h:eD w x P acc V) (hW:ai V.heap.size V W):eD w x P acc W:=fZ.at kH (KS.Ha kH kH) h hW
structure Y_ (w:Z) (x:b_) (P:fe) (n13:Nat) (e1 e2 e3 e4 e5 e6 e7 e8 e9 e10 e11 e12:Int) (a1 a2 a3 a4 a5 a6 a7 a8 a9 og:List ByteArray):Prop where
 c1:∀W,eD w x P [] W->ah ae 36 #[.slice P.jb P.ja P.i_,.int .i64 32,.func (.func 37) #[.map (Y (w.heap.size+1))] #[]] W (fun e W2=>e=.returned (.int .i64 e1)/\eD w x P a1 W2)
 c2:∀W,eD w x P a1 W->ah ae 109 #[.slice P.jD P.dS P.gq,.int .i64 32,.func (.func 110) #[] #[.pointer (Y ⟨w.heap.size+1+1,0,A⟩),.pointer (Y ⟨w.heap.size,0,A⟩)]] W (fun e W2=>e=.returned (.int .i64 e2)/\eD w x P a2 W2)
 c3:∀W,eD w x P a2 W->ah ae 112 #[.slice P.jT P.dD P.kD,.int .i64 32,.func (.func 113) #[] #[.pointer (Y ⟨w.heap.size+1+1,0,A⟩)]] W (fun e W2=>e=.returned (.int .i64 e3)/\eD w x P a3 W2)
 c4:∀W,eD w x P a3 W->ah ae 115 #[.slice P.kJ P.eF P.kV,.int .i64 32,.func (.func 116) #[] #[.pointer (Y ⟨w.heap.size+1+1,0,A⟩)]] W (fun e W2=>e=.returned (.int .i64 e4)/\eD w x P a4 W2)
 c5:∀W,eD w x P a4 W->ah ae 118 #[.slice P.vQ P.vP P.vO,.int .i64 32,.func (.func 69) #[.map (Y (w.heap.size+1))] #[]] W (fun e W2=>e=.returned (.int .i64 e5)/\eD w x P a5 W2)
 c6:∀W,eD w x P a5 W->ah ae 118 #[.slice P.sU P.sS P.sQ,.int .i64 32,.func (.func 69) #[.map (Y (w.heap.size+1))] #[]] W (fun e W2=>e=.returned (.int .i64 e6)/\eD w x P a6 W2)
 c7:∀W,eD w x P a6 W->ah ae 118 #[.slice P.vU P.vT P.tac,.int .i64 32,.func (.func 69) #[.map (Y (w.heap.size+1))] #[]] W (fun e W2=>e=.returned (.int .i64 e7)/\eD w x P a7 W2)
 c8:∀W,eD w x P a7 W->ah ae 118 #[.slice P.vE P.vD P.vC,.int .i64 32,.func (.func 69) #[.map (Y (w.heap.size+1))] #[]] W (fun e W2=>e=.returned (.int .i64 e8)/\eD w x P a8 W2)
 c9:∀W,eD w x P a8 W->ah ae 118 #[.slice P.uZ P.uY P.uX,.int .i64 32,.func (.func 69) #[.map (Y (w.heap.size+1))] #[]] W (fun e W2=>e=.returned (.int .i64 e9)/\eD w x P a9 W2)
 c10:∀W,eD w x P a9 W->ah ae 119 #[.slice P.mi P.ed P.k_,.int .i64 16,.func (.func 120) #[] #[.pointer (Y ⟨w.heap.size+1+1,0,A⟩)]] W (fun e W2=>e=.returned (.int .i64 e10)/\eD w x P og W2)
 c11:∀W,eD w x P og W->ah ae 122 #[.slice P.qi P.fG P.nI,.int .i64 32,.func (.func 123) #[] #[.pointer (Y ⟨w.heap.size,0,A⟩)]] W (fun e W2=>e=.returned (.int .i64 e11)/\eD w x P og W2)
 c12:∀W,eD w x P og W->ah ae 125 #[.agg (bX x P)] W (fun e W2=>e=.returned (.int .i64 e12)/\eD w x P og W2)
 fs:∀(acc:List ByteArray) (V W:Z),eD w x P acc V->ai V.heap.size V W->jf w P x n13 W
 hi:eD w x P [] (((w.alloc (.cells (bX x P) 53)).alloc (.map #[] 0)).alloc (.cells #[.map (Y (w.heap.size+1))] 96))
theorem ard (hK:wC) (x:b_) (P:fe) (w:Z) (hx:iT (Lo w.heap.size) w x P) (hz:B_ x) (n13:Nat) (jM:13=n13):∃(e1 e2 e3 e4 e5 e6 e7 e8 e9 e10 e11 e12:Int) (a1 a2 a3 a4 a5 a6 a7 a8 a9 og:List ByteArray),Y_ w x P n13 e1 e2 e3 e4 e5 e6 e7 e8 e9 e10 e11 e12 a1 a2 a3 a4 a5 a6 a7 a8 a9 og/\Du x=ic [e1,e2,e3,e4,e5,e6,e7,e8,e9,e10,e11,e12]:=by
 have FX:=far (w:=w) 53 (bX x P);have hb:w.heap.size<=w.heap.size+1:=by omega
 have hSt:=KS.Ha (c:=bX x P) (show w.heap.size+1+1≠w.heap.size+1 by omega) (show w.heap.size≠w.heap.size+1 by omega);obtain⟨⟨e1,a1⟩,h1⟩:∃r,dh ek 32 (x.va.map Fw) []=r:=⟨_,rfl⟩
 obtain⟨⟨e2,a2⟩,h2⟩:∃r,dh ek 32 (x.rs.map (KG x.sm)) a1=r:=⟨_,rfl⟩
 obtain⟨⟨e3,a3⟩,h3⟩:∃r,dh ek 32 (x.st.map Lh) a2=r:=⟨_,rfl⟩
 obtain⟨⟨e4,a4⟩,h4⟩:∃r,dh ek 32 (x.be.map I_) a3=r:=⟨_,rfl⟩
 obtain⟨⟨e5,a5⟩,h5⟩:∃r,dh ek 32 (x.qu.map qK) a4=r:=⟨_,rfl⟩
 obtain⟨⟨e6,a6⟩,h6⟩:∃r,dh ek 32 (x.sm.map qK) a5=r:=⟨_,rfl⟩
 obtain⟨⟨e7,a7⟩,h7⟩:∃r,dh ek 32 (x.ta.map qK) a6=r:=⟨_,rfl⟩
 obtain⟨⟨e8,a8⟩,h8⟩:∃r,dh ek 32 (x.le.map qK) a7=r:=⟨_,rfl⟩
 obtain⟨⟨e9,a9⟩,h9⟩:∃r,dh ek 32 (x.co.map qK) a8=r:=⟨_,rfl⟩
 obtain⟨⟨e10,og⟩,h10⟩:∃r,dh ek 16 (x.ro.map KH) a9=r:=⟨_,rfl⟩
 obtain⟨e11,h11⟩:∃r,AY (vS x.ro) 32 x.ss=r:=⟨_,rfl⟩
 obtain⟨e12,h12⟩:∃r,EG x=r:=⟨_,rfl⟩
 have HT:Du x=ic [e1,e2,e3,e4,e5,e6,e7,e8,e9,e10,e11,e12]:=by
  unfold Du kinds;simp only[Li,h1,h2,h3,h4,h5,h6,h7,h8,h9,h10,h11,h12,Cq,idE,ic,um,CY]
 have l0:([]:List ByteArray).length<=0:=Nat.le_refl _;have l1:a1.length<=32:=by
  have q:=zk (g:=fun y=>Fw y) (most:=32) (l:=x.va) (s:=[]);rw[← pQ (f:=ek),h1] at q;have q2:a1.length<=([]:List ByteArray).length+32:=q;omega
 have l2:a2.length<=64:=by
  have q:=zk (g:=fun y=>(KG x.sm) y) (most:=32) (l:=x.rs) (s:=a1);rw[← pQ (f:=ek),h2] at q;have q2:a2.length<=(a1:List ByteArray).length+32:=q;omega
 have l3:a3.length<=96:=by
  have q:=zk (g:=fun y=>Lh y) (most:=32) (l:=x.st) (s:=a2);rw[← pQ (f:=ek),h3] at q;have q2:a3.length<=(a2:List ByteArray).length+32:=q;omega
 have l4:a4.length<=128:=by
  have q:=zk (g:=fun y=>I_ y) (most:=32) (l:=x.be) (s:=a3);rw[← pQ (f:=ek),h4] at q;have q2:a4.length<=(a3:List ByteArray).length+32:=q;omega
 have l5:a5.length<=160:=by
  have q:=zk (g:=fun y=>qK y) (most:=32) (l:=x.qu) (s:=a4);rw[← pQ (f:=ek),h5] at q;have q2:a5.length<=(a4:List ByteArray).length+32:=q;omega
 have l6:a6.length<=192:=by
  have q:=zk (g:=fun y=>qK y) (most:=32) (l:=x.sm) (s:=a5);rw[← pQ (f:=ek),h6] at q;have q2:a6.length<=(a5:List ByteArray).length+32:=q;omega
 have l7:a7.length<=224:=by
  have q:=zk (g:=fun y=>qK y) (most:=32) (l:=x.ta) (s:=a6);rw[← pQ (f:=ek),h7] at q;have q2:a7.length<=(a6:List ByteArray).length+32:=q;omega
 have l8:a8.length<=256:=by
  have q:=zk (g:=fun y=>qK y) (most:=32) (l:=x.le) (s:=a7);rw[← pQ (f:=ek),h8] at q;have q2:a8.length<=(a7:List ByteArray).length+32:=q;omega
 have l9:a9.length<=288:=by
  have q:=zk (g:=fun y=>qK y) (most:=32) (l:=x.co) (s:=a8);rw[← pQ (f:=ek),h9] at q;have q2:a9.length<=(a8:List ByteArray).length+32:=q;omega
 have l10:og.length<=304:=by
  have q:=zk (g:=fun y=>KH y) (most:=16) (l:=x.ro) (s:=a9);rw[← pQ (f:=ek),h10] at q;have q2:og.length<=(a9:List ByteArray).length+16:=q;omega
 have C1:∀W,eD w x P [] W->ah ae 36 #[.slice P.jb P.ja P.i_,.int .i64 32,.func (.func 37) #[.map (Y (w.heap.size+1))] #[]] W (fun e W2=>e=.returned (.int .i64 e1)/\eD w x P a1 W2):=fun W hW=>by
  have q:=aaI (c:=P.i_) hb hSt hx.va hz.va 32 kH [] (by simp) W hW;rw[h1] at q;exact q
 have C2:∀W,eD w x P a1 W->ah ae 109 #[.slice P.jD P.dS P.gq,.int .i64 32,.func (.func 110) #[] #[.pointer (Y ⟨w.heap.size+1+1,0,A⟩),.pointer (Y ⟨w.heap.size,0,A⟩)]] W (fun e W2=>e=.returned (.int .i64 e2)/\eD w x P a2 W2):=fun W hW=>by
  have q:=alx hx hz hb (show w.heap.size+1+1≠w.heap.size+1 by omega) (show w.heap.size≠w.heap.size+1 by omega) kH W hW;rw[h2] at q;exact q
 have C3:∀W,eD w x P a2 W->ah ae 112 #[.slice P.jT P.dD P.kD,.int .i64 32,.func (.func 113) #[] #[.pointer (Y ⟨w.heap.size+1+1,0,A⟩)]] W (fun e W2=>e=.returned (.int .i64 e3)/\eD w x P a3 W2):=fun W hW=>by
  have q:=aly hx hz hb (show w.heap.size+1+1≠w.heap.size+1 by omega) (show w.heap.size≠w.heap.size+1 by omega) kH W hW;rw[h3] at q;exact q
 have C4:∀W,eD w x P a3 W->ah ae 115 #[.slice P.kJ P.eF P.kV,.int .i64 32,.func (.func 116) #[] #[.pointer (Y ⟨w.heap.size+1+1,0,A⟩)]] W (fun e W2=>e=.returned (.int .i64 e4)/\eD w x P a4 W2):=fun W hW=>by
  have q:=als hx hz hb (show w.heap.size+1+1≠w.heap.size+1 by omega) (show w.heap.size≠w.heap.size+1 by omega) kH W hW;rw[h4] at q;exact q
 have C5:∀W,eD w x P a4 W->ah ae 118 #[.slice P.vQ P.vP P.vO,.int .i64 32,.func (.func 69) #[.map (Y (w.heap.size+1))] #[]] W (fun e W2=>e=.returned (.int .i64 e5)/\eD w x P a5 W2):=fun W hW=>by
  have q:=Jz (c:=P.vO) hb hSt hx.qu hz.qu 32 kH a4 kH W hW;rw[h5] at q;exact q
 have C6:∀W,eD w x P a5 W->ah ae 118 #[.slice P.sU P.sS P.sQ,.int .i64 32,.func (.func 69) #[.map (Y (w.heap.size+1))] #[]] W (fun e W2=>e=.returned (.int .i64 e6)/\eD w x P a6 W2):=fun W hW=>by
  have q:=Jz (c:=P.sQ) hb hSt hx.sm hz.sm 32 kH a5 kH W hW;rw[h6] at q;exact q
 have C7:∀W,eD w x P a6 W->ah ae 118 #[.slice P.vU P.vT P.tac,.int .i64 32,.func (.func 69) #[.map (Y (w.heap.size+1))] #[]] W (fun e W2=>e=.returned (.int .i64 e7)/\eD w x P a7 W2):=fun W hW=>by
  have q:=Jz (c:=P.tac) hb hSt hx.ta hz.ta 32 kH a6 kH W hW;rw[h7] at q;exact q
 have C8:∀W,eD w x P a7 W->ah ae 118 #[.slice P.vE P.vD P.vC,.int .i64 32,.func (.func 69) #[.map (Y (w.heap.size+1))] #[]] W (fun e W2=>e=.returned (.int .i64 e8)/\eD w x P a8 W2):=fun W hW=>by
  have q:=Jz (c:=P.vC) hb hSt hx.le hz.le 32 kH a7 kH W hW;rw[h8] at q;exact q
 have C9:∀W,eD w x P a8 W->ah ae 118 #[.slice P.uZ P.uY P.uX,.int .i64 32,.func (.func 69) #[.map (Y (w.heap.size+1))] #[]] W (fun e W2=>e=.returned (.int .i64 e9)/\eD w x P a9 W2):=fun W hW=>by
  have q:=Jz (c:=P.uX) hb hSt hx.co hz.co 32 kH a8 kH W hW;rw[h9] at q;exact q
 have Ra:∀W,eD w x P a9 W->ah ae 119 #[.slice P.mi P.ed P.k_,.int .i64 16,.func (.func 120) #[] #[.pointer (Y ⟨w.heap.size+1+1,0,A⟩)]] W (fun e W2=>e=.returned (.int .i64 e10)/\eD w x P og W2):=fun W hW=>by
  have q:=alv hx hz hb (show w.heap.size+1+1≠w.heap.size+1 by omega) (show w.heap.size≠w.heap.size+1 by omega) kH W hW;rw[h10] at q;exact q
 have C11:∀W,eD w x P og W->ah ae 122 #[.slice P.qi P.fG P.nI,.int .i64 32,.func (.func 123) #[] #[.pointer (Y ⟨w.heap.size,0,A⟩)]] W (fun e W2=>e=.returned (.int .i64 e11)/\eD w x P og W2):=fun W hW=>by
  rw[← h11];exact(arH x P w hx w.heap.size W hW.below hW.k.2).mono fun e W2 h=>⟨h.1,hW.at h.2⟩
 have C12:∀W,eD w x P og W->ah ae 125 #[.agg (bX x P)] W (fun e W2=>e=.returned (.int .i64 e12)/\eD w x P og W2):=fun W hW=>by
  rw[← h12];exact(ajW hK x P W ((hx.below hW.below).up hW.below.size) hz.la).mono fun e W2 h=>⟨h.1,hW.at h.2⟩
 have FS:∀(acc:List ByteArray) (V W:Z),eD w x P acc V->ai V.heap.size V W->jf w P x n13 W:=fun acc V W h hW=>by
  have g:=h.at hW;have q:=g.k.2;exact⟨q.get (Jk x P),q.get (Ei x P),q.get (Ej x P),q.get (El x P),q.get (Jl x P),q.get (Gh x P),q.get (Jm x P),q.get (Jn x P),q.get (Jo x P),q.get (Ap x P),q.get (Eg x P),g.k.1,q.cell.dW jM⟩
 have HI0:eD w x P [] (((w.alloc (.cells (bX x P) 53)).alloc (.map #[] 0)).alloc (.cells #[.map (Y (w.heap.size+1))] 96)):=⟨bl,(KU (w:=w.alloc (.cells (bX x P) 53)) (n:=w.heap.size+1) (by simp)).on bl,by go_simp,FX.out _ bl⟩
 exact⟨e1,e2,e3,e4,e5,e6,e7,e8,e9,e10,e11,e12,a1,a2,a3,a4,a5,a6,a7,a8,a9,og,⟨C1,C2,C3,C4,C5,C6,C7,C8,C9,Ra,C11,C12,FS,HI0⟩,HT⟩
end Md
namespace Md
open Go.RowKit Go.Maps
open Sm (ic p_)
open Ex (Lo Gives)
set_option maxHeartbeats 8000000
theorem uR {p:Prop} (h:p:=by
 clear hHeld HC hI0 hV hmm
 first|(go_simp;done)|(go_simp;with_reducible rfl)
 ):p:=h
theorem mG {p:Prop} (h:p:=by
 intro W2 hS2;replace hS2:=(show jf w P x n13 W2 from hS2)
 exact uR
 ):p:=h
theorem Ih {p:Prop} (h:p:=by
 intro W2 hS2;replace hS2:=(show jf w P x n13 W2 from hS2)
 have q12:=hS2.f12;exact uR
 ):p:=h
set_option maxRecDepth 100000 in
theorem arf (x:b_) (P:fe) (w:Z) (n13:Nat) (Cu:∀w,(sizeOf 53).run ae w=.ok n13 w) (e1 e2 e3 e4 e5 e6 e7 e8 e9 e10 e11 e12:Int) (a1 a2 a3 a4 a5 a6 a7 a8 a9 og:List ByteArray) (HC:Y_ w x P n13 e1 e2 e3 e4 e5 e6 e7 e8 e9 e10 e11 e12 a1 a2 a3 a4 a5 a6 a7 a8 a9 og):ah ae 74 #[.agg (bX x P)] w (Gives (.int .i64 (ic [e1,e2,e3,e4,e5,e6,e7,e8,e9,e10,e11,e12])) w):=by
 have hmm:=@run_makeMap ae;obtain⟨V,hV⟩:∃V,ic [e1,e2,e3,e4,e5,e6,e7,e8,e9,e10,e11,e12]=V:=⟨_,rfl⟩
 rw[hV];replace hV:=hid hV;go_enter Tryz.func74,Tryz.ntmps74;go_wp2_with fail;have hI0:=HC.hi;refine wp_region_noPanic ?_;refine wp_region_held_drew (S:=(fun(W:Z)=>jf w P x n13 W)) (by kernel_rfl) (show((fun(W:Z)=>jf w P x n13 W)) _ from(HC.fs _ _ _ hI0 bl)) (fun hHeld=>?_);refine htake 0 ((.pointer (Y ⟨w.heap.size,1,A⟩):ag)) (hy:=?_) (h:=?_)
 · exact mG
 try simp only[X,sA,sB,sC]
 refine htake 1 ((.slice P.jb P.ja P.i_:ag)) (hy:=?_) (h:=?_)
 · intro W2 hS2;replace hS2:=(show jf w P x n13 W2 from hS2)
   have q1:=hS2.f1;exact uR
 try simp only[X,sA,sB,sC]
 refine htake 2 ((.map (Y (w.heap.size+1)):ag)) (hy:=?_) (h:=?_)
 · exact Ih
 try simp only[X,sA,sB,sC]
 refine htake 3 ((.func (.func 37) #[.map (Y (w.heap.size+1))] #[]:ag)) (hy:=?_) (h:=?_)
 · exact mG
 try simp only[X,sA,sB,sC]
 refine htake 5 ((.pointer (Y ⟨w.heap.size,2,A⟩):ag)) (hy:=?_) (h:=?_)
 · exact mG
 try simp only[X,sA,sB,sC]
 refine htake 6 ((.slice P.jD P.dS P.gq:ag)) (hy:=?_) (h:=?_)
 · intro W2 hS2;replace hS2:=(show jf w P x n13 W2 from hS2)
   have q2:=hS2.f2;exact uR
 try simp only[X,sA,sB,sC]
 refine htake 7 ((.func (.func 110) #[] #[.pointer (Y ⟨w.heap.size+1+1,0,A⟩),.pointer (Y ⟨w.heap.size,0,A⟩)]:ag)) (hy:=?_) (h:=?_)
 · exact mG
 try simp only[X,sA,sB,sC]
 refine htake 9 ((.pointer (Y ⟨w.heap.size,3,A⟩):ag)) (hy:=?_) (h:=?_)
 · exact mG
 try simp only[X,sA,sB,sC]
 refine htake 10 ((.slice P.jT P.dD P.kD:ag)) (hy:=?_) (h:=?_)
 · intro W2 hS2;replace hS2:=(show jf w P x n13 W2 from hS2)
   have q3:=hS2.f3;exact uR
 try simp only[X,sA,sB,sC]
 refine htake 11 ((.func (.func 113) #[] #[.pointer (Y ⟨w.heap.size+1+1,0,A⟩)]:ag)) (hy:=?_) (h:=?_)
 · exact mG
 try simp only[X,sA,sB,sC]
 refine htake 13 ((.pointer (Y ⟨w.heap.size,4,A⟩):ag)) (hy:=?_) (h:=?_)
 · exact mG
 try simp only[X,sA,sB,sC]
 refine htake 14 ((.slice P.kJ P.eF P.kV:ag)) (hy:=?_) (h:=?_)
 · intro W2 hS2;replace hS2:=(show jf w P x n13 W2 from hS2)
   have q4:=hS2.f4;exact uR
 try simp only[X,sA,sB,sC]
 refine htake 15 ((.func (.func 116) #[] #[.pointer (Y ⟨w.heap.size+1+1,0,A⟩)]:ag)) (hy:=?_) (h:=?_)
 · exact mG
 try simp only[X,sA,sB,sC]
 refine htake 17 ((.pointer (Y ⟨w.heap.size,5,A⟩):ag)) (hy:=?_) (h:=?_)
 · exact mG
 try simp only[X,sA,sB,sC]
 refine htake 18 ((.slice P.vQ P.vP P.vO:ag)) (hy:=?_) (h:=?_)
 · intro W2 hS2;replace hS2:=(show jf w P x n13 W2 from hS2)
   have q5:=hS2.f5;exact uR
 try simp only[X,sA,sB,sC]
 refine htake 19 ((.map (Y (w.heap.size+1)):ag)) (hy:=?_) (h:=?_)
 · exact Ih
 try simp only[X,sA,sB,sC]
 refine htake 20 ((.func (.func 69) #[.map (Y (w.heap.size+1))] #[]:ag)) (hy:=?_) (h:=?_)
 · exact mG
 try simp only[X,sA,sB,sC]
 refine htake 22 ((.pointer (Y ⟨w.heap.size,6,A⟩):ag)) (hy:=?_) (h:=?_)
 · exact mG
 try simp only[X,sA,sB,sC]
 refine htake 23 ((.slice P.sU P.sS P.sQ:ag)) (hy:=?_) (h:=?_)
 · intro W2 hS2;replace hS2:=(show jf w P x n13 W2 from hS2)
   have q6:=hS2.f6;exact uR
 try simp only[X,sA,sB,sC]
 refine htake 24 ((.map (Y (w.heap.size+1)):ag)) (hy:=?_) (h:=?_)
 · exact Ih
 try simp only[X,sA,sB,sC]
 refine htake 25 ((.func (.func 69) #[.map (Y (w.heap.size+1))] #[]:ag)) (hy:=?_) (h:=?_)
 · exact mG
 try simp only[X,sA,sB,sC]
 refine htake 27 ((.pointer (Y ⟨w.heap.size,7,A⟩):ag)) (hy:=?_) (h:=?_)
 · exact mG
 try simp only[X,sA,sB,sC]
 refine htake 28 ((.slice P.vU P.vT P.tac:ag)) (hy:=?_) (h:=?_)
 · intro W2 hS2;replace hS2:=(show jf w P x n13 W2 from hS2)
   have q7:=hS2.f7;exact uR
 try simp only[X,sA,sB,sC]
 refine htake 29 ((.map (Y (w.heap.size+1)):ag)) (hy:=?_) (h:=?_)
 · exact Ih
 try simp only[X,sA,sB,sC]
 refine htake 30 ((.func (.func 69) #[.map (Y (w.heap.size+1))] #[]:ag)) (hy:=?_) (h:=?_)
 · exact mG
 try simp only[X,sA,sB,sC]
 refine htake 32 ((.pointer (Y ⟨w.heap.size,8,A⟩):ag)) (hy:=?_) (h:=?_)
 · exact mG
 try simp only[X,sA,sB,sC]
 refine htake 33 ((.slice P.vE P.vD P.vC:ag)) (hy:=?_) (h:=?_)
 · intro W2 hS2;replace hS2:=(show jf w P x n13 W2 from hS2)
   have q8:=hS2.f8;exact uR
 try simp only[X,sA,sB,sC]
 refine htake 34 ((.map (Y (w.heap.size+1)):ag)) (hy:=?_) (h:=?_)
 · exact Ih
 try simp only[X,sA,sB,sC]
 refine htake 35 ((.func (.func 69) #[.map (Y (w.heap.size+1))] #[]:ag)) (hy:=?_) (h:=?_)
 · exact mG
 try simp only[X,sA,sB,sC]
 refine htake 37 ((.pointer (Y ⟨w.heap.size,9,A⟩):ag)) (hy:=?_) (h:=?_)
 · exact mG
 try simp only[X,sA,sB,sC]
 refine htake 38 ((.slice P.uZ P.uY P.uX:ag)) (hy:=?_) (h:=?_)
 · intro W2 hS2;replace hS2:=(show jf w P x n13 W2 from hS2)
   have q9:=hS2.f9;exact uR
 try simp only[X,sA,sB,sC]
 refine htake 39 ((.map (Y (w.heap.size+1)):ag)) (hy:=?_) (h:=?_)
 · exact Ih
 try simp only[X,sA,sB,sC]
 refine htake 40 ((.func (.func 69) #[.map (Y (w.heap.size+1))] #[]:ag)) (hy:=?_) (h:=?_)
 · exact mG
 try simp only[X,sA,sB,sC]
 refine htake 42 ((.pointer (Y ⟨w.heap.size,10,A⟩):ag)) (hy:=?_) (h:=?_)
 · exact mG
 try simp only[X,sA,sB,sC]
 refine htake 43 ((.slice P.mi P.ed P.k_:ag)) (hy:=?_) (h:=?_)
 · intro W2 hS2;replace hS2:=(show jf w P x n13 W2 from hS2)
   have xy:=hS2.f10;exact uR
 try simp only[X,sA,sB,sC]
 refine htake 44 ((.func (.func 120) #[] #[.pointer (Y ⟨w.heap.size+1+1,0,A⟩)]:ag)) (hy:=?_) (h:=?_)
 · exact mG
 try simp only[X,sA,sB,sC]
 refine htake 46 ((.pointer (Y ⟨w.heap.size,11,A⟩):ag)) (hy:=?_) (h:=?_)
 · exact mG
 try simp only[X,sA,sB,sC]
 refine htake 47 ((.slice P.qi P.fG P.nI:ag)) (hy:=?_) (h:=?_)
 · intro W2 hS2;replace hS2:=(show jf w P x n13 W2 from hS2)
   have Pz:=hS2.f11;exact uR
 try simp only[X,sA,sB,sC]
 refine htake 48 ((.func (.func 123) #[] #[.pointer (Y ⟨w.heap.size,0,A⟩)]:ag)) (hy:=?_) (h:=?_)
 · exact mG
 try simp only[X,sA,sB,sC]
 refine htake 50 ((.agg (bX x P):ag)) (hy:=?_) (h:=?_)
 · intro W2 hS2;replace hS2:=(show jf w P x n13 W2 from hS2)
   have q13:=hS2.f13;exact uR
 try simp only[X,sA,sB,sC]
 refine sG [4] ?_;refine ru (fun K hK=>?_) ?_;rotate_left 1
 · exact af
 go_simp
 refine(HC.c1 _ (hI0.at bl)).mono ?_;rintro e v1 ⟨rfl,hI1⟩;clear hHeld;refine hK.out _ _ (show((fun(W:Z)=>jf w P x n13 W)) _ from(HC.fs _ _ _ hI1 bl)) (fun hHeld=>?_);clear hK K
 (try simp only[X,sA,sB,sC])
 refine sG [8] ?_;refine ru (fun K hK=>?_) ?_;rotate_left 1
 · exact af
 go_simp
 refine(HC.c2 _ (hI1.at bl)).mono ?_;rintro e v2 ⟨rfl,hI2⟩;clear hHeld;refine hK.out _ _ (show((fun(W:Z)=>jf w P x n13 W)) _ from(HC.fs _ _ _ hI2 bl)) (fun hHeld=>?_);clear hK K
 (try simp only[X,sA,sB,sC])
 refine sG [12] ?_;refine ru (fun K hK=>?_) ?_;rotate_left 1
 · exact af
 go_simp
 refine(HC.c3 _ (hI2.at bl)).mono ?_;rintro e v3 ⟨rfl,hI3⟩;clear hHeld;refine hK.out _ _ (show((fun(W:Z)=>jf w P x n13 W)) _ from(HC.fs _ _ _ hI3 bl)) (fun hHeld=>?_);clear hK K
 (try simp only[X,sA,sB,sC])
 refine sG [16] ?_;refine ru (fun K hK=>?_) ?_;rotate_left 1
 · exact af
 go_simp
 refine(HC.c4 _ (hI3.at bl)).mono ?_;rintro e v4 ⟨rfl,hI4⟩;clear hHeld;refine hK.out _ _ (show((fun(W:Z)=>jf w P x n13 W)) _ from(HC.fs _ _ _ hI4 bl)) (fun hHeld=>?_);clear hK K
 (try simp only[X,sA,sB,sC])
 refine sG [21] ?_;refine ru (fun K hK=>?_) ?_;rotate_left 1
 · exact af
 go_simp
 refine(HC.c5 _ (hI4.at bl)).mono ?_;rintro e v5 ⟨rfl,hI5⟩;clear hHeld;refine hK.out _ _ (show((fun(W:Z)=>jf w P x n13 W)) _ from(HC.fs _ _ _ hI5 bl)) (fun hHeld=>?_);clear hK K
 (try simp only[X,sA,sB,sC])
 refine sG [26] ?_;refine ru (fun K hK=>?_) ?_;rotate_left 1
 · exact af
 go_simp
 refine(HC.c6 _ (hI5.at bl)).mono ?_;rintro e v6 ⟨rfl,hI6⟩;clear hHeld;refine hK.out _ _ (show((fun(W:Z)=>jf w P x n13 W)) _ from(HC.fs _ _ _ hI6 bl)) (fun hHeld=>?_);clear hK K
 (try simp only[X,sA,sB,sC])
 refine sG [31] ?_;refine ru (fun K hK=>?_) ?_;rotate_left 1
 · exact af
 go_simp
 refine(HC.c7 _ (hI6.at bl)).mono ?_;rintro e v7 ⟨rfl,hI7⟩;clear hHeld;refine hK.out _ _ (show((fun(W:Z)=>jf w P x n13 W)) _ from(HC.fs _ _ _ hI7 bl)) (fun hHeld=>?_);clear hK K
 (try simp only[X,sA,sB,sC])
 refine sG [36] ?_;refine ru (fun K hK=>?_) ?_;rotate_left 1
 · exact af
 go_simp
 refine(HC.c8 _ (hI7.at bl)).mono ?_;rintro e v8 ⟨rfl,hI8⟩;clear hHeld;refine hK.out _ _ (show((fun(W:Z)=>jf w P x n13 W)) _ from(HC.fs _ _ _ hI8 bl)) (fun hHeld=>?_);clear hK K
 (try simp only[X,sA,sB,sC])
 refine sG [41] ?_;refine ru (fun K hK=>?_) ?_;rotate_left 1
 · exact af
 go_simp
 refine(HC.c9 _ (hI8.at bl)).mono ?_;rintro e v9 ⟨rfl,hI9⟩;clear hHeld;refine hK.out _ _ (show((fun(W:Z)=>jf w P x n13 W)) _ from(HC.fs _ _ _ hI9 bl)) (fun hHeld=>?_);clear hK K
 (try simp only[X,sA,sB,sC])
 refine sG [45] ?_;refine ru (fun K hK=>?_) ?_;rotate_left 1
 · exact af
 go_simp
 refine(HC.c10 _ (hI9.at bl)).mono ?_;rintro e v10 ⟨rfl,acb⟩;clear hHeld;refine hK.out _ _ (show((fun(W:Z)=>jf w P x n13 W)) _ from(HC.fs _ _ _ acb bl)) (fun hHeld=>?_);clear hK K
 (try simp only[X,sA,sB,sC])
 refine sG [49] ?_;refine ru (fun K hK=>?_) ?_;rotate_left 1
 · exact af
 go_simp
 refine(HC.c11 _ (acb.at bl)).mono ?_;rintro e v11 ⟨rfl,acd⟩;clear hHeld;refine hK.out _ _ (show((fun(W:Z)=>jf w P x n13 W)) _ from(HC.fs _ _ _ acd bl)) (fun hHeld=>?_);clear hK K
 (try simp only[X,sA,sB,sC])
 refine sG [51] ?_;refine ru (fun K hK=>?_) ?_;rotate_left 1
 · exact af
 go_simp
 refine(HC.c12 _ (acd.at bl)).mono ?_;rintro e v12 ⟨rfl,OB⟩;clear hHeld;refine hK.out _ _ (show((fun(W:Z)=>jf w P x n13 W)) _ from(HC.fs _ _ _ OB bl)) (fun hHeld=>?_);clear hK K
 (try simp only[X,sA,sB,sC])
 refine sG [52] ?_;refine ru (fun K hK=>?_) ?_;rotate_left 1
 · exact af
 go_simp
 clear hHeld;refine hK.out _ _ (show((fun(W:Z)=>jf w P x n13 W)) _ from(HC.fs _ _ _ OB bl)) (fun hHeld=>?_);clear hK K
 (try simp only[X,sA,sB,sC])
 refine sG [53] ?_;refine ru (fun K hK=>?_) ?_;rotate_left 1
 · exact af
 go_simp
 refine(p_ [e1,e2,e3,e4,e5,e6,e7,e8,e9,e10,e11,e12] _ 12 12 _ rfl (by omega) (hid (ajM _ _ _ _ _ _ _ _ _ _ _ _ _ _))).mono ?_;rintro e w9 ⟨rfl,rfl⟩;clear hHeld;refine hK.out _ _ (show((fun(W:Z)=>jf w P x n13 W)) _ from(HC.fs _ _ _ OB bl)) (fun hHeld=>?_);clear hK K
 (try simp only[X,sA,sB,sC])
 refine wpAnyH_take (i:=54) (oi:={ dst:=Y 2,op:=Op.assign (Operand.tmp 58),type:=28,pos := "model.go:185",after:=#[{ on:=53,ground:=Ground.data },{ on:=53,ground:=Ground.chain },{ on:=0,ground:=U },{ on:=1,ground:=U },{ on:=2,ground:=U },{ on:=3,ground:=U },{ on:=4,ground:=U },{ on:=5,ground:=U },{ on:=6,ground:=U },{ on:=7,ground:=U },{ on:=8,ground:=U },{ on:=9,ground:=U },{ on:=10,ground:=U },{ on:=11,ground:=U },{ on:=12,ground:=U },{ on:=13,ground:=U },{ on:=14,ground:=U },{ on:=15,ground:=U },{ on:=16,ground:=U },{ on:=17,ground:=U },{ on:=18,ground:=U },{ on:=19,ground:=U },{ on:=20,ground:=U },{ on:=21,ground:=U },{ on:=22,ground:=U },{ on:=23,ground:=U },{ on:=24,ground:=U },{ on:=25,ground:=U },{ on:=26,ground:=U },{ on:=27,ground:=U },{ on:=28,ground:=U },{ on:=29,ground:=U },{ on:=30,ground:=U },{ on:=31,ground:=U },{ on:=32,ground:=U },{ on:=33,ground:=U },{ on:=34,ground:=U },{ on:=35,ground:=U },{ on:=36,ground:=U },{ on:=37,ground:=U },{ on:=38,ground:=U },{ on:=39,ground:=U },{ on:=40,ground:=U },{ on:=41,ground:=U },{ on:=42,ground:=U },{ on:=43,ground:=U },{ on:=44,ground:=U },{ on:=45,ground:=U },{ on:=46,ground:=U },{ on:=47,ground:=U },{ on:=48,ground:=U },{ on:=49,ground:=U },{ on:=50,ground:=U },{ on:=51,ground:=U },{ on:=52,ground:=U },{ on:=53,ground:=U }],guard:=A }) (v:=(.int .i64 (ic [e1,e2,e3,e4,e5,e6,e7,e8,e9,e10,e11,e12]):ag)) rfl (by kernel_rfl) (by kernel_rfl) (by kernel_rfl) (fun _ _ _ h=>h) (Or.inl ⟨by rfl,?_⟩) (by assumption) ?_
 · exact mG
 try simp only[X,sA,sB,sC]
 refine wpAnyH_done (by kernel_rfl) ?_ _;refine NoPanic.normal ?_;have ahC:=hid OB.below;go_wp2_with fail;go_ret;exact⟨by rw[← hV.out];rfl,by have bU:=ahC.out;exact bl⟩
theorem aj1 (hK:wC) (x:b_) (P:fe) (w:Z) (hx:iT (Lo w.heap.size) w x P) (hz:B_ x):ah ae 74 #[.agg (bX x P)] w (Gives (.int .i64 (Du x)) w):=by
 obtain⟨n13,jM⟩:∃n:Nat,13=n:=⟨_,rfl⟩
 obtain⟨e1,e2,e3,e4,e5,e6,e7,e8,e9,e10,e11,e12,a1,a2,a3,a4,a5,a6,a7,a8,a9,og,HC,HT⟩:=ard hK x P w hx hz n13 jM;rw[HT];exact arf x P w n13 (fun w=>by rw[Tryz.sizeOf53,jM]) e1 e2 e3 e4 e5 e6 e7 e8 e9 e10 e11 e12 a1 a2 a3 a4 a5 a6 a7 a8 a9 og HC
end Md
namespace Md
open Go.RowKit Go.Maps
open Na (bs iK)
open Sm (um ic p_)
open Ex (Lo Gives)
set_option maxHeartbeats 8000000
theorem arh (hK:wC) (l:List b_) (p:Option Addr) (m c:Nat) (w0:Z) (hx:Rw 13 gH (Lo w0.heap.size) w0 l p m) (hz:∀x∈l,B_ x) (b B1:Nat) (hb:w0.heap.size<=b) (h1:B1≠b) (W:Z) (hW:fZ w0 b (fun V=>V.cell? ⟨B1,0,A⟩=Y (.map (Y b))) [] W) :
 ah ae 72 #[.slice p m c,.int .i64 ((16:Nat):Int),.func (.func 73) #[] #[.pointer (Y ⟨B1,0,A⟩)]] W (fun e W2=>e=.returned (.int .i64 (dh ek 16 (l.map KZ) []).1)/\ai w0.heap.size w0 W2):=by
 have hSt:rT b (fun V=>V.cell? ⟨B1,0,A⟩=Y (.map (Y b))):=fun V V2 h hbt=>xY hbt h h1;rw[pQ];refine(aln (hid hx) #[] #[.pointer (Y ⟨B1,0,A⟩)] _ (hid (fZ.fine hb hSt)) (fun a l=>ek a (KZ l)) 16 (by omega) [] (hid fun k s x c V hxk hm hg hR hI=>?_) W (hid hW)).mono fun e W2 h=>⟨h.1,h.2.below⟩
 rw[F3];obtain⟨Q,rfl,hQ⟩:=hR;have hsh:=AA hm hg;have hzx:=hz x (List.mem_of_getElem? hxk);have hl0:s.length<=0+16:=hsh;refine(akt x Q b B1 s V hI.vR (by omega) hzx.nm hI.k h1 (Du x) (hid fun V2 hbt=>?_)).mono fun e W2 h=>hI.step hb hSt h;have hb2:ai w0.heap.size w0 V2:=But.below hI.below hbt hb hI.below.size;exact aj1 hK x Q V2 ((hQ.below (Sv hI.below hbt hb)).up hb2.size) hzx
set_option maxRecDepth 100000 in
theorem aj2 (hK:wC) (l:List b_) (p:Option Addr) (m c:Nat) (w:Z) (hx:Rw 13 gH (Lo w.heap.size) w l p m) (hz:∀x∈l,B_ x):ah ae 38 #[.slice p m c] w (Gives (.int .i64 (if l.length=0 then 7 else (dh ek 16 (l.map KZ) []).1)) w):=by
 obtain⟨hl,hm⟩:=hx.len;have hmm:=@run_makeMap ae;by_cases h0:m=0
 · rw[if_pos (by omega)];subst h0;clear hx hz hl hm;go_enter Tryz.func38,Tryz.ntmps38;go_wp2_with fail;go_ret;exact⟨rfl,bl⟩
 · rw[if_neg (by omega)];obtain⟨v,hv⟩:∃v,(dh ek 16 (l.map KZ) []).1=v:=⟨_,rfl⟩
   have CE:=hid (fun W (h1:ai w.heap.size w W) (h2:iW w.heap.size [] W) (h3:W.cell? ⟨w.heap.size+1,0,A⟩=Y (.map (Y w.heap.size)))=>(show ah ae 72 #[.slice p m c,.int .i64 16,.func (.func 73) #[] #[.pointer (Y ⟨w.heap.size+1,0,A⟩)]] W (Ri w (.int .i64 v)) by
    rw[← hv];exact arh hK l p m c w hx hz w.heap.size (w.heap.size+1) (by omega) (by omega) W ⟨h1,h2,h3⟩))
   have d0:¬(m:Int)=0:=by omega
   rw[hv];clear hx hz hl hm hv h0;go_enter Tryz.func38,Tryz.ntmps38;go_wp2_with fail;refine(CE.out _ bl ((KU (w:=w) rfl).on bl) (by go_simp)).mono ?_;rintro e v1 ⟨rfl,hb1⟩;go_wp2_with fail;go_ret;exact⟨rfl,hb1⟩
structure Zc (x:dx):Prop where
 nm:x.nm.size<=9223372036854775807
 pa:∀y∈x.pa,y.nm.size<=9223372036854775807
 si:∀y∈x.si,B_ y
 li:∀l∈x.li,l.fr.size<=1000000000/\l.tt.size<=1000000000
structure qp (w:Z) (P:kS) (x:dx) (n4:Nat) (W:Z):Prop where
 f0:W.cell? ⟨w.heap.size,0,A⟩=Y (.string x.nm)
 f1:W.cell? ⟨w.heap.size,1,A⟩=Y (.slice P.pap P.sO P.sN)
 f2:W.cell? ⟨w.heap.size,2,A⟩=Y (.slice P.rH P.ig P.qg)
 ld:(loadCellsFrom ⟨w.heap.size,0,A⟩ 0 n4 #[]).run ae W=.ok (dB x P) W
structure MdC (w:Z) (P:kS) (x:dx) (n4:Nat) (v1 v2 v3 v4:Int):Prop where
 c1:∀W,ai w.heap.size w W->ah ae 35 #[.string x.nm] W (Gives (.int .i64 v1) W)
 c2:∀W b,(w.alloc (.cells (dB x P) 27)).heap.size<=b->ai (w.alloc (.cells (dB x P) 27)).heap.size (w.alloc (.cells (dB x P) 27)) W->iW b [] W->ah ae 36 #[.slice P.pap P.sO P.sN,.int .i64 32,.func (.func 37) #[.map (Y b)] #[]] W (fun e W2=>e=.returned (.int .i64 v2)/\ai (w.alloc (.cells (dB x P) 27)).heap.size (w.alloc (.cells (dB x P) 27)) W2)
 c3:∀W,ai w.heap.size w W->ah ae 38 #[.slice P.rH P.ig P.qg] W (Gives (.int .i64 v3) W)
 c4:∀W,ai w.heap.size w W->ah ae 39 #[.agg (dB x P)] W (Gives (.int .i64 v4) W)
 fs:∀W,ai (w.alloc (.cells (dB x P) 27)).heap.size (w.alloc (.cells (dB x P) 27)) W->qp w P x n4 W
theorem ajN (w:Z) (t:TypeId) (r0 r1 r2 r3:Int):∀i,(h:i<[r0,r1,r2,r3].length)->(w.alloc (.cells #[.int .i64 r0,.int .i64 r1,.int .i64 r2,.int .i64 r3] t)).cell? ⟨w.heap.size,i,A⟩=Y (.int .i64 [r0,r1,r2,r3][i]):=by
 intro i h;rw[World.cell?_alloc_mark]
 match i,h with
 | 0,_=>rfl
 | 1,_=>rfl
 | 2,_=>rfl
 | 3,_=>rfl
theorem L8 {p:Prop} (h:p:=by
 clear hHeld HC hmm
 first|(go_simp;done)|(go_simp;with_reducible rfl)|(go_simp;rfl)
 ):p:=h
theorem Ii {p:Prop} (h:p:=by
 intro W2 hS2;replace hS2:=(show qp w P x n4 W2 from hS2)
 exact L8
 ):p:=h
theorem agI {p:Prop} (h:p:=by
 rintro e u2 ⟨rfl,hb2⟩;clear hHeld;refine hK.out _ _ (show((fun(W:Z)=>qp w P x n4 W)) _ from HC.fs _ bl) (fun hHeld=>?_);clear hK K
 try simp only[X,sA,sB,sC]
 refine hcall 10 (fun K hK=>?_)
 go_simp
 refine(HC.c3 _ bl).mono ?_;rintro e u3 ⟨rfl,hb3⟩;clear hHeld;refine hK.out _ _ (show((fun(W:Z)=>qp w P x n4 W)) _ from HC.fs _ bl) (fun hHeld=>?_);clear hK K
 try simp only[X,sA,sB,sC]
 refine hcall 12 (fun K hK=>?_)
 go_simp
 refine(HC.c4 _ bl).mono ?_;rintro e u4 ⟨rfl,hb4⟩;clear hHeld;refine hK.out _ _ (show((fun(W:Z)=>qp w P x n4 W)) _ from HC.fs _ bl) (fun hHeld=>?_);clear hK K
 try simp only[X,sA,sB,sC]
 refine hcall 13 (fun K hK=>?_)
 go_simp
 clear hHeld;refine hK.out _ _ (show((fun(W:Z)=>qp w P x n4 W)) _ from HC.fs _ bl) (fun hHeld=>?_);clear hK K
 try simp only[X,sA,sB,sC]
 refine hcall 14 (fun K hK=>?_)
 go_simp
 refine(p_ [v1,v2,v3,v4] _ 4 4 _ rfl (by omega) (hid (ajN _ _ _ _ _ _))).mono ?_;rintro e w9 ⟨rfl,rfl⟩;clear hHeld;refine hK.out _ _ (show((fun(W:Z)=>qp w P x n4 W)) _ from HC.fs _ bl) (fun hHeld=>?_);clear hK K
 try simp only[X,sA,sB,sC]
 refine wpAnyH_take (i:=15) (oi:={ dst:=Y 2,op:=Op.assign (Operand.tmp 17),type:=28,pos := "model.go:24",after:=#[{ on:=14,ground:=Ground.data },{ on:=14,ground:=Ground.chain },{ on:=0,ground:=U },{ on:=1,ground:=U },{ on:=2,ground:=U },{ on:=3,ground:=U },{ on:=4,ground:=U },{ on:=5,ground:=U },{ on:=6,ground:=U },{ on:=7,ground:=U },{ on:=8,ground:=U },{ on:=9,ground:=U },{ on:=10,ground:=U },{ on:=11,ground:=U },{ on:=12,ground:=U },{ on:=13,ground:=U },{ on:=14,ground:=U }],guard:=A }) (v:=(.int .i64 (ic [v1,v2,v3,v4]):ag)) rfl (by kernel_rfl) (by kernel_rfl) (by kernel_rfl) (fun _ _ _ h=>h) (Or.inl ⟨by rfl,?_⟩) (by assumption) ?_
 · exact Ii
 try simp only[X,sA,sB,sC]
 refine wpAnyH_done (by kernel_rfl) ?_ _;refine NoPanic.normal ?_;go_wp2_with fail;go_ret;exact⟨rfl,bl⟩
 ):p:=h
set_option maxRecDepth 100000 in
theorem aj9 (x:dx) (P:kS) (w:Z) (n4:Nat) (acB:∀w,(sizeOf 27).run ae w=.ok n4 w) (v1 v2 v3 v4:Int) (HC:MdC w P x n4 v1 v2 v3 v4):ah ae 15 #[.agg (dB x P)] w (Gives (.int .i64 (ic [v1,v2,v3,v4])) w):=by
 have hmm:=@run_makeMap ae;go_enter Tryz.func15,Tryz.ntmps15;go_wp2_with fail;refine wp_region_noPanic ?_;refine wp_region_held_drew (S:=(fun(W:Z)=>qp w P x n4 W)) (by kernel_rfl) (show((fun(W:Z)=>qp w P x n4 W)) _ from HC.fs _ bl) (fun hHeld=>?_);refine htake 0 ((.pointer (Y ⟨w.heap.size,0,A⟩):ag)) (hy:=?_) (h:=?_)
 · exact Ii
 try simp only[X,sA,sB,sC]
 refine htake 1 ((.string x.nm:ag)) (hy:=?_) (h:=?_)
 · intro W2 hS2;replace hS2:=(show qp w P x n4 W2 from hS2)
   have qf0:=hS2.f0;exact L8
 try simp only[X,sA,sB,sC]
 refine htake 3 ((.pointer (Y ⟨w.heap.size,1,A⟩):ag)) (hy:=?_) (h:=?_)
 · exact Ii
 try simp only[X,sA,sB,sC]
 refine htake 4 ((.slice P.pap P.sO P.sN:ag)) (hy:=?_) (h:=?_)
 · intro W2 hS2;replace hS2:=(show qp w P x n4 W2 from hS2)
   have qf1:=hS2.f1;exact L8
 try simp only[X,sA,sB,sC]
 refine htake 8 ((.pointer (Y ⟨w.heap.size,2,A⟩):ag)) (hy:=?_) (h:=?_)
 · exact Ii
 try simp only[X,sA,sB,sC]
 refine htake 9 ((.slice P.rH P.ig P.qg:ag)) (hy:=?_) (h:=?_)
 · intro W2 hS2;replace hS2:=(show qp w P x n4 W2 from hS2)
   have qf2:=hS2.f2;exact L8
 try simp only[X,sA,sB,sC]
 refine htake 11 ((.agg (dB x P):ag)) (hy:=?_) (h:=?_)
 · intro W2 hS2;replace hS2:=(show qp w P x n4 W2 from hS2)
   have qld:=hS2.ld;exact L8
 try simp only[X,sA,sB,sC]
 refine sG [2,5] ?_;refine ru (fun K hK=>?_) ?_;rotate_left 1
 · refine ru (fun K hK=>?_) af
   go_simp
   clear hHeld;refine hK.out _ _ (show((fun(W:Z)=>qp w P x n4 W)) _ from HC.fs _ bl) (fun hHeld=>?_);clear hK K
   try simp only[X,sA,sB,sC]
   refine htake 6 ((.func (.func 37) #[.map (Y (w.heap.size+1))] #[]:ag)) (hy:=?_) (h:=?_)
   · exact Ii
   try simp only[X,sA,sB,sC]
   refine hcall 2 (fun K hK=>?_)
   go_simp
   refine(HC.c1 _ bl).mono ?_;rintro e u1 ⟨rfl,hb1⟩;clear hHeld;refine hK.out _ _ (show((fun(W:Z)=>qp w P x n4 W)) _ from HC.fs _ bl) (fun hHeld=>?_);clear hK K
   try simp only[X,sA,sB,sC]
   refine hcall 7 (fun K hK=>?_)
   go_simp
   refine(HC.c2 _ _ (by simp) bl ((KU (w:=(w.alloc (.cells (dB x P) 27))) (n:=w.heap.size+1) (by simp)).on bl)).mono ?_;exact agI
 go_simp
 refine(HC.c1 _ bl).mono ?_;rintro e u1 ⟨rfl,hb1⟩;clear hHeld;refine hK.out _ _ (show((fun(W:Z)=>qp w P x n4 W)) _ from HC.fs _ bl) (fun hHeld=>?_);clear hK K
 try simp only[X,sA,sB,sC]
 refine hcall 5 (fun K hK=>?_)
 go_simp
 clear hHeld;refine hK.out _ _ (show((fun(W:Z)=>qp w P x n4 W)) _ from HC.fs _ bl) (fun hHeld=>?_);clear hK K
 try simp only[X,sA,sB,sC]
 refine htake 6 ((.func (.func 37) #[.map (Y u1.heap.size)] #[]:ag)) (hy:=?_) (h:=?_)
 · exact Ii
 try simp only[X,sA,sB,sC]
 refine hcall 7 (fun K hK=>?_)
 go_simp
 refine(HC.c2 _ _ (show ai (w.alloc (.cells (dB x P) 27)).heap.size (w.alloc (.cells (dB x P) 27)) u1 by exact bl).size bl ((KU (w:=u1) rfl).on bl)).mono ?_;exact agI
theorem pO (hK:wC) (x:dx) (P:kS) (w:Z) (hx:iG (Lo w.heap.size) w x P) (hz:Zc x):ah ae 15 #[.agg (dB x P)] w (Gives (.int .i64 (oZ x)) w):=by
 obtain⟨n4,ny⟩:∃n:Nat,4=n:=⟨_,rfl⟩
 have FX:=far (w:=w) 27 (dB x P);have hb1:ai w.heap.size w (w.alloc (.cells (dB x P) 27)):=bl;rw[show oZ x=ic [iK (bs x.nm),U6 x,VS x,GK x] by unfold oZ;simp only[ic,um]];refine aj9 x P w n4 (fun w=>by rw[Tryz.sizeOf27,ny]) _ _ _ _ ⟨fun W hW=>?_,fun W b hb hW hS=>?_,fun W hW=>?_,fun W hW=>?_,fun W hW=>?_⟩
 · exact Na.pO x.nm W hz.nm
 · exact(aaI (c:=P.sN) (K:=fun _=>True) hb (rT.top b) (hx.on hb1).pa hz.pa 32 (by omega) [] (by simp) W ⟨hW,hS,trivial⟩).mono fun e W2 h=>⟨h.1,h.2.below⟩
 · exact aj2 hK x.si P.rH P.ig P.qg W (hx.on hW).si hz.si
 · exact ajX x P W (hx.on hW) hz.li
 · have q:=FX.out W hW;exact⟨q.get (Gb x P),q.get (Gc x P),q.get (Cg x P),q.cell.dW ny⟩
end Md
end Go.Proofs.YtbgodajefaahdaaGreatDoor
