/-
  Parts of this proof: The contracts of checkLaw, checkLaws, checkLinks. The contract of checkSite; what Kind gives is as. The walk of checkSite.
-/
import Derived.Test.YthnillhnjhalmaaGreatDoorYPChk1
import Derived.Test.YthnillhnjhalmaaGreatDoorYQStr
import Derived.Test.YthnillhnjhalmaaGreatDoorYERChk
open Go.Proofs.Tryz
open Go.Ground renaming phase->ae
open Go.Proofs.Tryz renaming prog->af
open Go.Act renaming put->ag
open Option renaming some->U,none->Y
open Go renaming World->X,Value->aj,Calls->ak
open Go.AllReadyH renaming nil->ah
open Nat renaming lt_of_lt_of_le->ai,le_refl->av
open Go.RowKit renaming Below->au
open Go.Lib renaming hid->ax
set_option linter.unusedSimpArgs false
set_option linter.unusedVariables false
set_option maxRecDepth 100000
set_option maxHeartbeats 8000000
open Go.Lib (hid)
namespace Go.Proofs.YthnillhnjhalmaaGreatDoor
namespace Md
open Go.RowKit Go.Maps
open Sm (dQ tF kV)
open Ex (Lo Gives)
attribute [local go_sem] LZ Xz QN XP XN QQ QR QT XA
theorem asJ {p:Prop} (h:p:=by
 clear HE;go_enter func196,ntmps196;go_wp2_with fail;refine(CT.out _ bl (FX.out _ (Below.refl _ _)).1).mono ?_;rintro e v1 ⟨rfl,hb1⟩;have q:=FY.out v1 bl;go_wp2_with fail;refine(CN.out _).mono ?_;rintro e v3 ⟨rfl,rfl⟩;exact dS
 ):p:=h
theorem ahx (hK:vI) (x:cZ) (P:fe) (l:Lw) (Q:sO) (w:X) (hx:jc (Lo w.heap.size) w x P) (hl:oU (Lo w.heap.size) w l Q):ak af 196 #[.agg (cK x P),.agg (jJ l Q)] w (Gives (.int .i64 (zq x l)) w):=by
 have HX:=ax hx;have HL:=ax hl;have FX:=xE (w:=w) 50 233 (cK x P) (jJ l Q);obtain⟨hlm,hm⟩:=hl.ts.len;by_cases h0:Q.EJ=0
 · rw[show zq x l=7 by unfold zq;rw[if_pos bU]];have d0:((Q.EJ:Int)==0)=true:=by rw[h0];rfl
   clear hx hl hlm hm h0;go_enter func196,ntmps196;exact dS
 have d0:((Q.EJ:Int)==0)=false:=beq_eq_false_iff_ne.2 bU;obtain⟨v,hv⟩:∃v,BR (tQ x) 8 l.ts=v:=⟨_,rfl⟩
 obtain⟨r,hr⟩:∃v,iL (-1000000000000) l.tt 1000000000000=v:=⟨_,rfl⟩
 have CT:=ax (fun W (hW:au w.heap.size w W) (hB:bX W w.heap.size 50 (cK x P))=>(show ak af 224 #[.slice Q.Om Q.EJ Q.UU,.int .i64 8,.func (.func 225) #[] #[.pointer (U ⟨w.heap.size,0,Y⟩)]] W (Gives (.int .i64 v) W) by
  rw[← hv];exact apR hK x P w HX.out HL.out.ts w.heap.size W hW hB))
 have CN:=ax (fun W=>(show ak af 138 #[.int .i64 l.tt] W (oW (.bool r) W) by rw[← hr];exact DU _ W));have HE:Hid (zq x l=dQ v (if r then 0 else 2)):=ax (by unfold zq;rw[if_neg bU,hv,hr]);clear hx hl hlm hm h0 hv hr hK;by_cases hv0:v=0;rotate_left 1
 · rw[show zq x l=v by rw[HE.out,tF hv0]];have t1:(v != 0)=true:=bne_iff_ne.2 hv0;clear HE;go_enter func196,ntmps196;go_wp2_with fail;refine(CT.out _ bl (FX.out _ (Below.refl _ _)).1).mono ?_;exact KZ
 subst hv0;have FY:Hid (∀W,au ((w.alloc (.cells (cK x P) 50)).alloc (.cells (jJ l Q) 233)).heap.size ((w.alloc (.cells (cK x P) 50)).alloc (.cells (jJ l Q) 233)) W->W.cell? ⟨w.heap.size+1,2,Y⟩=U (.int .i64 l.tt)):=ax fun W hb=>(FX.out W hb).2.get (QN l Q)
 cases r with
 | false=>
  rw[show zq x l=2 by rw[HE.out,kV];rfl];exact asJ
 | true=>
  rw[show zq x l=0 by rw[HE.out,kV];rfl];exact asJ
def PU (w0:X) (v:aj) (e:Ending) (w':X):Prop:=e=.returned v/\au w0.heap.size w0 w'
theorem jc.below {B:Nat} {w w2:X} (hb:au B w w2) {x:cZ} {P:fe} (h:jc (Lo B) w x P):jc (Lo B) w2 x P:=h.map hb.size fun b g _=>⟨g,hb.block b g⟩
theorem jc.up {B:Nat} {w:X} (hs:B<=w.heap.size) {x:cZ} {P:fe} (h:jc (Lo B) w x P):jc (Lo w.heap.size) w x P:=h.map (av _) fun b g _=>⟨ai g hs,rfl⟩
theorem oU.below {B:Nat} {w w2:X} (hb:au B w w2) {x:Lw} {P:sO} (h:oU (Lo B) w x P):oU (Lo B) w2 x P:=h.map hb.size fun b g _=>⟨g,hb.block b g⟩
theorem oU.up {B:Nat} {w:X} (hs:B<=w.heap.size) {x:Lw} {P:sO} (h:oU (Lo B) w x P):oU (Lo w.heap.size) w x P:=h.map (av _) fun b g _=>⟨ai g hs,rfl⟩
theorem alk (hK:vI) (x:cZ) (P:fe) (w0:X) (hx:jc (Lo w0.heap.size) w0 x P) (hz:∀l∈x.la,l.nm.size<=9223372036854775807) (b B1 B2:Nat) (hb:w0.heap.size<=b) (h1:B1≠b) (h2:B2≠b) (W:X)
 (hW:gy w0 b (fun V=>V.cell? ⟨B1,0,Y⟩=U (.map (U b))/\bX V B2 50 (cK x P)) [] W) :
 ak af 194 #[.slice P.Jz P.lam P.Ni,.int .i64 ((32:Nat):Int),.func (.func 195) #[] #[.pointer (U ⟨B1,0,Y⟩),.pointer (U ⟨B2,0,Y⟩)]] W (fun e W2=>e=.returned (.int .i64 (Gf x))/\au w0.heap.size w0 W2):=by
 have hSt:rz b (fun V=>V.cell? ⟨B1,0,Y⟩=U (.map (U b))/\bX V B2 50 (cK x P)):=fun V V2 h hbt=>⟨xy hbt h.1 h1,h.2.but hbt h2⟩
 refine(aiU (ax hx.la) #[] #[.pointer (U ⟨B1,0,Y⟩),.pointer (U ⟨B2,0,Y⟩)] _ (ax (gy.fine hb hSt)) (fun a l=>eP a (abr x l)) 32 bU [] (ax fun k s l c V hxk hm hg hR hI=>?_) W (ax hW)).mono fun e W2 h=>?_
 · rw[Qu];obtain⟨Q,rfl,hQ⟩:=hR;have hsh:=Ay hm hg;refine(ah3 l Q b B1 s V hI.uU (by simp at hsh;omega) (hz l (List.mem_of_getElem? hxk)) hI.k.1 h1 B2 (cK x P) (QZ x P) hI.k.2 h2 (zq x l) (ax fun V2 hbt=>?_)).mono fun e W2 h=>hI.step hb hSt h;have hb2:au w0.heap.size w0 V2:=But.below hI.below hbt hb hI.below.size;have hle:w0.heap.size<=V2.heap.size:=hb2.size;have hv2:au w0.heap.size V V2:=⟨hbt.os,hbt.tape,hbt.output,hbt.size,fun k hk=>hbt.block k (ai hk hI.below.size) bU⟩
   exact ahx hK x P l Q V2 ((hx.below hb2).up hle) ((hQ.below hv2).up hle)
 · obtain⟨h3,h4⟩:=h;refine⟨?_,h4.below⟩;rw[h3];unfold Gf;rw[oD]
theorem J8 {w:X} {n:Nat} (h:w.heap.size=n):iJ n [] (w.alloc (.map #[] 0)):=by subst h;exact World.ownsMap_made _ _ _ _
theorem amO {w:X} {n:Nat} (h:w.heap.size=n):vJ n [] (w.alloc (.map #[] 0)):=by subst h;exact⟨World.ownsMap_made _ _ _ _,fun p hp=>by cases hp⟩
theorem ahy (hK:vI) (x:cZ) (P:fe) (w:X) (hx:jc (Lo w.heap.size) w x P) (hz:∀l∈x.la,l.nm.size<=9223372036854775807):ak af 156 #[.agg (cK x P)] w (Gives (.int .i64 (Gf x)) w):=by
 have FX:=far (w:=w) 50 (cK x P);have hmm:=@run_makeMap af;obtain⟨v,hv⟩:∃v,Gf x=v:=⟨_,rfl⟩
 have CE:=ax (fun W (h1:au w.heap.size w W) (h2:iJ (w.heap.size+1) [] W) (h3:W.cell? ⟨w.heap.size+1+1,0,Y⟩=U (.map (U (w.heap.size+1)))) (h4:bX W w.heap.size 50 (cK x P))=>(show ak af 194 #[.slice P.Jz P.lam P.Ni,.int .i64 32,.func (.func 195) #[] #[.pointer (U ⟨w.heap.size+1+1,0,Y⟩),.pointer (U ⟨w.heap.size,0,Y⟩)]] W (PU w (.int .i64 v)) by
  rw[← hv];exact alk hK x P w hx hz (w.heap.size+1) (w.heap.size+1+1) w.heap.size bU bU bU W ⟨h1,h2,h3,h4⟩))
 rw[hv];clear hx hv hz hK;go_enter func156,ntmps156;go_wp2_with fail;refine(CE.out _ bl ((J8 (w:=w.alloc (.cells (cK x P) 50)) (n:=w.heap.size+1) cz).on bl) (by go_simp) (FX.out _ bl)).mono ?_;exact afi
structure Ls (w0:X) (b:Nat) (K:X->Prop) (acc:List (List UInt8×List UInt8)) (W:X):Prop where
 below:au w0.heap.size w0 W
 uU:vJ b acc W
 k:K W
theorem Ls.fine {w0:X} {b:Nat} {K:X->Prop} (hb:w0.heap.size<=b) (hK:rz b K):qy w0 (Ls w0 b K) where
 below _ _ h:=h.below
 on s W W2 h hW:=⟨h.below.trans (hW.mono h.below.size),h.uU.on hW,hK W W2 h.k (But.of hW)⟩
theorem apF (si:List cZ) (acc:List (List UInt8×List UInt8)) (l:iY):(pW si acc l).2.length<=acc.length+1:=by
 unfold pW;split
 · split <;> simp
 · simp
theorem aai {si:List cZ}:∀{l:List iY} {s:List (List UInt8×List UInt8)},(dL (pW si) l s).2.length<=s.length+l.length
 | [],s=>by simp[dL]
 | x::t,s=>by
  have h1:=apF si s x;rw[dL]
  split
  · have h2:=aai (si:=si) (l:=t) (s:=(pW si s x).2);rw[List.length_cons];omega
  · rw[List.length_cons];omega
theorem alr (M:dM) (PM:lN) (w0:X) (hx:jS (Lo w0.heap.size) w0 M PM) (hz:∀l∈M.li,l.fr.size<=1000000000/\l.tt.size<=1000000000) (b B1 B2:Nat) (hb:w0.heap.size<=b) (h1:B1≠b) (h2:B2≠b) (W:X)
 (hW:Ls w0 b (fun V=>V.cell? ⟨B1,0,Y⟩=U (.map (U b))/\bX V B2 36 (dX M PM)) [] W) :
 ak af 97 #[.slice PM.Gh PM.lim PM.JD,.int .i64 ((32:Nat):Int),.func (.func 98) #[] #[.pointer (U ⟨B2,0,Y⟩),.pointer (U ⟨B1,0,Y⟩)]] W (fun e W2=>e=.returned (.int .i64 (JF M))/\au w0.heap.size w0 W2):=by
 have hSt:rz b (fun V=>V.cell? ⟨B1,0,Y⟩=U (.map (U b))/\bX V B2 36 (dX M PM)):=fun V V2 h hbt=>⟨xy hbt h.1 h1,h.2.but hbt h2⟩
 refine(aiT (ax hx.li) #[] #[.pointer (U ⟨B2,0,Y⟩),.pointer (U ⟨B1,0,Y⟩)] _ (ax (Ls.fine hb hSt)) (pW M.si) 32 bU [] (ax fun k s l c V hxk hm hg hR hI=>?_) W (ax hW)).mono fun e W2 h=>?_
 · rw[Qu,show c=qI l from hR];have hl:=aai (si:=M.si) (l:=M.li.take k) (s:=[]);rw[hg,List.length_take] at hl;have hle:s.length<=0+min k M.li.length:=hl;have hz2:=hz l (List.mem_of_getElem? hxk);refine(ah2 l M PM b B1 B2 s V hI.uU bU hz2.1 hz2.2 hI.k.1 hI.k.2 ?_).mono fun e W2 h=>?_
   · exact hx.si.map g_.map hI.below.size fun bb g _=>⟨ai g hI.below.size,hI.below.block bb g⟩
   · exact⟨h.1,⟨But.below hI.below h.2.2 hb hI.below.size,h.2.1,hSt _ _ hI.k h.2.2⟩⟩
 · exact⟨h.1,h.2.below⟩
theorem ahz (M:dM) (PM:lN) (w:X) (hx:jS (Lo w.heap.size) w M PM) (hz:∀l∈M.li,l.fr.size<=1000000000/\l.tt.size<=1000000000):ak af 54 #[.agg (dX M PM)] w (Gives (.int .i64 (JF M)) w):=by
 have FX:=far (w:=w) 36 (dX M PM);have hmm:=@run_makeMap af;obtain⟨v,hv⟩:∃v,JF M=v:=⟨_,rfl⟩
 have CE:=ax (fun W (h1:au w.heap.size w W) (h2:vJ (w.heap.size+1) [] W) (h3:W.cell? ⟨w.heap.size+1+1,0,Y⟩=U (.map (U (w.heap.size+1)))) (h4:bX W w.heap.size 36 (dX M PM))=>(show ak af 97 #[.slice PM.Gh PM.lim PM.JD,.int .i64 32,.func (.func 98) #[] #[.pointer (U ⟨w.heap.size,0,Y⟩),.pointer (U ⟨w.heap.size+1+1,0,Y⟩)]] W (PU w (.int .i64 v)) by
  rw[← hv];exact alr M PM w hx hz (w.heap.size+1) (w.heap.size+1+1) w.heap.size bU bU bU W ⟨h1,h2,h3,h4⟩))
 rw[hv];clear hx hv hz;go_enter func54,ntmps54;go_wp2_with fail;refine(CE.out _ bl ((amO (w:=w.alloc (.cells (dX M PM) 36)) (n:=w.heap.size+1) cz).on bl) (by go_simp) (FX.out _ bl)).mono ?_;exact afi
theorem oz.below {B:Nat} {w w2:X} (hb:au B w w2) {x:jf} {P:qD} (h:oz (Lo B) w x P):oz (Lo B) w2 x P:=h.map hb.size fun b g _=>⟨g,hb.block b g⟩
theorem oz.up {B:Nat} {w:X} (hs:B<=w.heap.size) {x:jf} {P:qD} (h:oz (Lo B) w x P):oz (Lo w.heap.size) w x P:=h.map (av _) fun b g _=>⟨ai g hs,rfl⟩
theorem ahZ (x:cZ) (P:fe) (d:jf) (Q:qD) (B:Nat) (w:X) (hx:Rw 4 il (Lo w.heap.size) w x.ro P.yt P.tJ) (hd:oz (Lo w.heap.size) w d Q) (hB:bX w B 50 (cK x P)):ak af 154 #[.agg (jq d Q),.pointer (U ⟨B,0,Y⟩)] w (Gives (.int .i64 (yA x.ro d)) w):=by
 have HX:=ax hx;have HD:=ax hd;obtain⟨n13,jF⟩:∃n:Nat,13=n:=⟨_,rfl⟩
 have BK:∀w,(sizeOf 50).run af w=.ok n13 w:=fun w=>by rw[sizeOf50,jF]
 have CY:=ax jF;obtain⟨n5,SK⟩:∃n:Nat,5=n:=⟨_,rfl⟩
 have hsz5:∀w,(sizeOf 214).run af w=.ok n5 w:=fun w=>by rw[sizeOf214,SK]
 have ld:=(hB.on (show au w.heap.size w (w.alloc (.cells (jq d Q) 214)) by exact bl)).cell.gJ CY.out;have ld5:=fun W=>run_loadCellsFrom_new (P:=af) W 214 (jq d Q) n5 (by rw[XL];exact SK);obtain⟨V,hV⟩:∃v,yA x.ro d=v:=⟨_,rfl⟩
 have CT:=ax (fun W (hW:au w.heap.size w W)=>(show ak af 155 #[.agg (cK x P),.agg (jq d Q)] W (Gives (.int .i64 V) W) by rw[← hV];exact ahF x P d Q W (HX.out.on il.map hW) (HD.out.on hW)));rw[hV];clear hx hd hB jF SK hV;go_enter func154,ntmps154;go_wp2_with fail;refine(CT.out _ bl).mono ?_;exact KZ
theorem apo (x:cZ) (P:fe) (w0:X) (hx:jc (Lo w0.heap.size) w0 x P) (B:Nat) (W:X) (hW:au w0.heap.size w0 W) (hB:bX W B 50 (cK x P)) :
 ak af 153 #[.slice P.Ci P.Ch P.EE,.int .i64 ((32:Nat):Int),.func (.func 154) #[] #[.pointer (U ⟨B,0,Y⟩)]] W (fun e W2=>e=.returned (.int .i64 (BR (yA x.ro) 32 x.ss))/\au W.heap.size W W2):=by
 have F:qy w0 (fun(_:Unit) V=>au W.heap.size W V):=⟨fun _ V h=>hW.trans (h.mono hW.size),fun _ V V2 h h2=>h.trans (h2.mono h.size)⟩
 refine(aiX (ax hx.ss) #[] #[.pointer (U ⟨B,0,Y⟩)] (fun(_:Unit) V=>au W.heap.size W V) (ax F) (fun _ d=>(yA x.ro d,())) 32 bU () (ax fun k s d c V hx2 hm hg hR hI=>?_) W (ax (Below.refl _ _))).mono fun e W2 h=>?_
 · rw[Fg];obtain⟨Q,rfl,hQ⟩:=hR;have h0:au w0.heap.size w0 V:=hW.trans (hI.mono hW.size);exact(ahZ x P d Q B V (hx.ro.map il.map h0.size fun b g _=>⟨ai g h0.size,h0.block b g⟩) (hQ.up h0.size) (hB.on hI)).mono fun e W2 h=>⟨h.1,hI.trans (h.2.mono hI.size)⟩
 · obtain⟨h1,h2⟩:=h;rw[YP] at h1;exact⟨h1,h2⟩
end Md
namespace Md
open Go.RowKit Go.Maps
open Sm (tH BX ic)
open Ex (Lo)
structure Bv (x:cZ):Prop where
 va:∀y∈x.va,y.nm.size<=9223372036854775807
 rs:∀y∈x.rs,y.nm.size<=9223372036854775807
 st:∀y∈x.st,y.nm.size<=9223372036854775807
 be:∀y∈x.be,y.nm.size<=9223372036854775807
 qu:∀y∈x.qu,y.size<=9223372036854775807
 sm:∀y∈x.sm,y.size<=9223372036854775807
 ta:∀y∈x.ta,y.size<=9223372036854775807
 le:∀y∈x.le,y.size<=9223372036854775807
 co:∀y∈x.co,y.size<=9223372036854775807
 ro:∀y∈x.ro,Lv y
 la:∀y∈x.la,y.nm.size<=9223372036854775807
 nm:x.nm.size<=9223372036854775807
def KS (b B1 B2:Nat) (c:Array aj) (V:X):Prop:=V.cell? ⟨B1,0,Y⟩=U (.map (U b))/\bX V B2 50 c
theorem KS.Gz {b B1 B2:Nat} {c:Array aj} (h1:B1≠b) (h2:B2≠b):rz b (KS b B1 B2 c):=fun V V2 h hbt=>⟨xy hbt h.1 h1,h.2.but hbt h2⟩
theorem gy.at {w0:X} {b:Nat} {K:X->Prop} (hb:w0.heap.size<=b) (hK:rz b K) {acc:List ByteArray} {W W2:X} (h:gy w0 b K acc W) (hW:au W.heap.size W W2):gy w0 b K acc W2:=(gy.fine hb hK).on acc W W2 h hW
theorem nN.below {B:Nat} {w w2:X} (hb:au B w w2) {x:dx} {P:eO} (h:nN (Lo B) w x P):nN (Lo B) w2 x P:=h.map hb.size fun b g _=>⟨g,hb.block b g⟩
theorem nN.up {B:Nat} {w:X} (hs:B<=w.heap.size) {x:dx} {P:eO} (h:nN (Lo B) w x P):nN (Lo w.heap.size) w x P:=h.map (av _) fun b g _=>⟨ai g hs,rfl⟩
theorem oV.below {B:Nat} {w w2:X} (hb:au B w w2) {x:fD} {P:qC} (h:oV (Lo B) w x P):oV (Lo B) w2 x P:=h.map hb.size fun b g _=>⟨g,hb.block b g⟩
theorem oV.up {B:Nat} {w:X} (hs:B<=w.heap.size) {x:fD} {P:qC} (h:oV (Lo B) w x P):oV (Lo w.heap.size) w x P:=h.map (av _) fun b g _=>⟨ai g hs,rfl⟩
theorem aqE {p:Prop} (h:p:=by omega):p:=h
theorem QK {w0 V V2:X} {b:Nat} (hV:au w0.heap.size w0 V) (hbt:But b V V2) (hb:w0.heap.size<=b):au w0.heap.size V V2:=⟨hbt.os,hbt.tape,hbt.output,hbt.size,fun k hk=>hbt.block k (ai hk hV.size) aqE⟩
section
variable {w0:X} {b B1 B2:Nat} {x:cZ} {P:fe} (hx:jc (Lo w0.heap.size) w0 x P) (hz:Bv x) (hb:w0.heap.size<=b) (h1:B1≠b) (h2:B2≠b)
include hx hz hb h1 h2
theorem ai6 {s0:List ByteArray} (h0:s0.length<=50000) (W:X) (hW:gy w0 b (KS b B1 B2 (cK x P)) s0 W) :
 ak af 140 #[.slice P.wS P.wR P.qQ,.int .i64 ((32:Nat):Int),.func (.func 141) #[] #[.pointer (U ⟨B1,0,Y⟩),.pointer (U ⟨B2,0,Y⟩)]] W (Does (gy w0 b (KS b B1 B2 (cK x P))) (dB eP 32 (x.rs.map (JW x.sm)) s0)):=by
 have hSt:=KS.Gz (c:=cK x P) h1 h2;rw[oD];refine aiV (ax hx.rs) #[] #[.pointer (U ⟨B1,0,Y⟩),.pointer (U ⟨B2,0,Y⟩)] _ (ax (gy.fine hb hSt)) (fun a l=>eP a (JW x.sm l)) 32 aqE s0 (ax fun k s l c V hxk hm hg hR hI=>?_) W (ax hW);rw[Qu];obtain⟨Q,rfl,hQ⟩:=hR;have hsh:=Ay hm hg;refine(ah4 l Q b B1 s V hI.uU aqE (hz.rs l (List.mem_of_getElem? hxk)) hI.k.1 h1 B2 P.uX P.uW P.uV (hI.k.2.get (QY x P)) h2 (Er x.sm l) (ax fun V2 hbt=>?_)).mono fun e W2 h=>hI.step hb hSt h;have hb2:au w0.heap.size w0 V2:=But.below hI.below hbt hb hI.below.size;exact ahA l Q x.sm P.uX P.uW P.uV V2 ((hQ.below (QK hI.below hbt hb)).up hb2.size) (Rw.strs (hx.sm.below dZ.map hb2))
theorem ai7 {s0:List ByteArray} (h0:s0.length<=50000) (W:X) (hW:gy w0 b (KS b B1 B2 (cK x P)) s0 W) :
 ak af 143 #[.slice P.wT P.fJ P.yB,.int .i64 ((32:Nat):Int),.func (.func 144) #[] #[.pointer (U ⟨B1,0,Y⟩)]] W (Does (gy w0 b (KS b B1 B2 (cK x P))) (dB eP 32 (x.st.map Kj) s0)):=by
 have hSt:=KS.Gz (c:=cK x P) h1 h2;rw[oD];refine aiZ (ax hx.st) #[] #[.pointer (U ⟨B1,0,Y⟩)] _ (ax (gy.fine hb hSt)) (fun a l=>eP a (Kj l)) 32 aqE s0 (ax fun k s l c V hxk hm hg hR hI=>?_) W (ax hW);rw[Fg,show c=mq l from hR];have hsh:=Ay hm hg;exact(ah7 l b B1 s V hI.uU aqE (hz.st l (List.mem_of_getElem? hxk)) hI.k.1 h1 (Bb l) (ax fun V2 hbt=>ahG l V2)).mono fun e W2 h=>hI.step hb hSt h
theorem ai3 {s0:List ByteArray} (h0:s0.length<=50000) (W:X) (hW:gy w0 b (KS b B1 B2 (cK x P)) s0 W) :
 ak af 146 #[.slice P.vM P.vL P.xw,.int .i64 ((32:Nat):Int),.func (.func 147) #[] #[.pointer (U ⟨B1,0,Y⟩)]] W (Does (gy w0 b (KS b B1 B2 (cK x P))) (dB eP 32 (x.be.map Ip) s0)):=by
 have hSt:=KS.Gz (c:=cK x P) h1 h2;rw[oD];refine aiR (ax hx.be) #[] #[.pointer (U ⟨B1,0,Y⟩)] _ (ax (gy.fine hb hSt)) (fun a l=>eP a (Ip l)) 32 aqE s0 (ax fun k s l c V hxk hm hg hR hI=>?_) W (ax hW);rw[Fg,show c=mo l from hR];have hsh:=Ay hm hg;exact(ah1 l b B1 s V hI.uU aqE (hz.be l (List.mem_of_getElem? hxk)) hI.k.1 h1 (Aj l) (ax fun V2 hbt=>ahu l V2)).mono fun e W2 h=>hI.step hb hSt h
theorem ai5 {s0:List ByteArray} (h0:s0.length<=50000) (W:X) (hW:gy w0 b (KS b B1 B2 (cK x P)) s0 W) :
 ak af 150 #[.slice P.yt P.tJ P.A7,.int .i64 ((16:Nat):Int),.func (.func 151) #[] #[.pointer (U ⟨B1,0,Y⟩)]] W (Does (gy w0 b (KS b B1 B2 (cK x P))) (dB eP 16 (x.ro.map JX) s0)):=by
 have hSt:=KS.Gz (c:=cK x P) h1 h2;rw[oD];refine aiW (ax hx.ro) #[] #[.pointer (U ⟨B1,0,Y⟩)] _ (ax (gy.fine hb hSt)) (fun a l=>eP a (JX l)) 16 aqE s0 (ax fun k s l c V hxk hm hg hR hI=>?_) W (ax hW);rw[Fg];obtain⟨Q,rfl,hQ⟩:=hR;have hsh:=Ay hm hg;have hzr:=hz.ro l (List.mem_of_getElem? hxk);refine(ah5 l Q b B1 s V hI.uU aqE hzr.nm hI.k.1 h1 (Et l) (ax fun V2 hbt=>?_)).mono fun e W2 h=>hI.step hb hSt h;have hb2:au w0.heap.size w0 V2:=But.below hI.below hbt hb hI.below.size;exact ahB l Q V2 ((hQ.below (QK hI.below hbt hb)).up hb2.size) hzr
end
theorem ahp (w:X) (t:TypeId) (r0 r1 r2 r3 r4 r5 r6 r7 r8 r9 yo Gu:Int):∀i,(h:i<[r0,r1,r2,r3,r4,r5,r6,r7,r8,r9,yo,Gu].length)->(w.alloc (.cells #[.int .i64 r0,.int .i64 r1,.int .i64 r2,.int .i64 r3,.int .i64 r4,.int .i64 r5,.int .i64 r6,.int .i64 r7,.int .i64 r8,.int .i64 r9,.int .i64 yo,.int .i64 Gu] t)).cell? ⟨w.heap.size,i,Y⟩=U (.int .i64 [r0,r1,r2,r3,r4,r5,r6,r7,r8,r9,yo,Gu][i]):=by
 intro i h;rw[World.cell?_alloc_mark]
 match i,h with
 | 0,_=>rfl
 | 1,_=>rfl
 | 2,_=>rfl
 | 3,_=>rfl
 | 4,_=>rfl
 | 5,_=>rfl
 | 6,_=>rfl
 | 7,_=>rfl
 | 8,_=>rfl
 | 9,_=>rfl
 | 10,_=>rfl
 | 11,_=>rfl
structure iZ (w:X) (P:fe) (x:cZ) (n13:Nat) (W:X):Prop where
 f1:W.cell? ⟨w.heap.size,1,Y⟩=U (.slice P.yP P.yO P.yN)
 f2:W.cell? ⟨w.heap.size,2,Y⟩=U (.slice P.wS P.wR P.qQ)
 f3:W.cell? ⟨w.heap.size,3,Y⟩=U (.slice P.wT P.fJ P.yB)
 f4:W.cell? ⟨w.heap.size,4,Y⟩=U (.slice P.vM P.vL P.xw)
 f5:W.cell? ⟨w.heap.size,5,Y⟩=U (.slice P.yn P.ym P.yj)
 f6:W.cell? ⟨w.heap.size,6,Y⟩=U (.slice P.uX P.uW P.uV)
 f7:W.cell? ⟨w.heap.size,7,Y⟩=U (.slice P.yD P.yC P.tac)
 f8:W.cell? ⟨w.heap.size,8,Y⟩=U (.slice P.xP P.xO P.xN)
 f9:W.cell? ⟨w.heap.size,9,Y⟩=U (.slice P.xB P.xA P.xz)
 f10:W.cell? ⟨w.heap.size,10,Y⟩=U (.slice P.yt P.tJ P.A7)
 f11:W.cell? ⟨w.heap.size,11,Y⟩=U (.slice P.Ci P.Ch P.EE)
 f12:W.cell? ⟨w.heap.size+1+1,0,Y⟩=U (.map (U (w.heap.size+1)))
 f13:(loadCellsFrom ⟨w.heap.size,0,Y⟩ 0 n13 #[]).run af W=.ok (cK x P) W
def ek (w:X) (x:cZ) (P:fe) (acc:List ByteArray) (W:X):Prop:=gy w (w.heap.size+1) (KS (w.heap.size+1) (w.heap.size+1+1) w.heap.size (cK x P)) acc W
theorem ek.at {w:X} {x:cZ} {P:fe} {acc:List ByteArray} {V W:X} (h:ek w x P acc V) (hW:au V.heap.size V W):ek w x P acc W:=gy.at aqE (KS.Gz aqE aqE) h hW
structure WY (w:X) (x:cZ) (P:fe) (n13:Nat) (e1 e2 e3 e4 e5 e6 e7 e8 e9 e10 e11 e12:Int) (a1 a2 a3 a4 a5 a6 a7 a8 a9 mh:List ByteArray):Prop where
 c1:∀W,ek w x P [] W->ak af 51 #[.slice P.yP P.yO P.yN,.int .i64 32,.func (.func 52) #[.map (U (w.heap.size+1))] #[]] W (fun e W2=>e=.returned (.int .i64 e1)/\ek w x P a1 W2)
 c2:∀W,ek w x P a1 W->ak af 140 #[.slice P.wS P.wR P.qQ,.int .i64 32,.func (.func 141) #[] #[.pointer (U ⟨w.heap.size+1+1,0,Y⟩),.pointer (U ⟨w.heap.size,0,Y⟩)]] W (fun e W2=>e=.returned (.int .i64 e2)/\ek w x P a2 W2)
 c3:∀W,ek w x P a2 W->ak af 143 #[.slice P.wT P.fJ P.yB,.int .i64 32,.func (.func 144) #[] #[.pointer (U ⟨w.heap.size+1+1,0,Y⟩)]] W (fun e W2=>e=.returned (.int .i64 e3)/\ek w x P a3 W2)
 c4:∀W,ek w x P a3 W->ak af 146 #[.slice P.vM P.vL P.xw,.int .i64 32,.func (.func 147) #[] #[.pointer (U ⟨w.heap.size+1+1,0,Y⟩)]] W (fun e W2=>e=.returned (.int .i64 e4)/\ek w x P a4 W2)
 c5:∀W,ek w x P a4 W->ak af 149 #[.slice P.yn P.ym P.yj,.int .i64 32,.func (.func 91) #[.map (U (w.heap.size+1))] #[]] W (fun e W2=>e=.returned (.int .i64 e5)/\ek w x P a5 W2)
 c6:∀W,ek w x P a5 W->ak af 149 #[.slice P.uX P.uW P.uV,.int .i64 32,.func (.func 91) #[.map (U (w.heap.size+1))] #[]] W (fun e W2=>e=.returned (.int .i64 e6)/\ek w x P a6 W2)
 c7:∀W,ek w x P a6 W->ak af 149 #[.slice P.yD P.yC P.tac,.int .i64 32,.func (.func 91) #[.map (U (w.heap.size+1))] #[]] W (fun e W2=>e=.returned (.int .i64 e7)/\ek w x P a7 W2)
 c8:∀W,ek w x P a7 W->ak af 149 #[.slice P.xP P.xO P.xN,.int .i64 32,.func (.func 91) #[.map (U (w.heap.size+1))] #[]] W (fun e W2=>e=.returned (.int .i64 e8)/\ek w x P a8 W2)
 c9:∀W,ek w x P a8 W->ak af 149 #[.slice P.xB P.xA P.xz,.int .i64 32,.func (.func 91) #[.map (U (w.heap.size+1))] #[]] W (fun e W2=>e=.returned (.int .i64 e9)/\ek w x P a9 W2)
 c10:∀W,ek w x P a9 W->ak af 150 #[.slice P.yt P.tJ P.A7,.int .i64 16,.func (.func 151) #[] #[.pointer (U ⟨w.heap.size+1+1,0,Y⟩)]] W (fun e W2=>e=.returned (.int .i64 e10)/\ek w x P mh W2)
 c11:∀W,ek w x P mh W->ak af 153 #[.slice P.Ci P.Ch P.EE,.int .i64 32,.func (.func 154) #[] #[.pointer (U ⟨w.heap.size,0,Y⟩)]] W (fun e W2=>e=.returned (.int .i64 e11)/\ek w x P mh W2)
 c12:∀W,ek w x P mh W->ak af 156 #[.agg (cK x P)] W (fun e W2=>e=.returned (.int .i64 e12)/\ek w x P mh W2)
 fs:∀(acc:List ByteArray) (V W:X),ek w x P acc V->au V.heap.size V W->iZ w P x n13 W
 hi:ek w x P [] (((w.alloc (.cells (cK x P) 50)).alloc (.map #[] 0)).alloc (.cells #[.map (U (w.heap.size+1))] 106))
theorem ao0 (hK:vI) (x:cZ) (P:fe) (w:X) (hx:jc (Lo w.heap.size) w x P) (hz:Bv x) (n13:Nat) (jF:13=n13):∃(e1 e2 e3 e4 e5 e6 e7 e8 e9 e10 e11 e12:Int) (a1 a2 a3 a4 a5 a6 a7 a8 a9 mh:List ByteArray),WY w x P n13 e1 e2 e3 e4 e5 e6 e7 e8 e9 e10 e11 e12 a1 a2 a3 a4 a5 a6 a7 a8 a9 mh/\Gy x=ic [e1,e2,e3,e4,e5,e6,e7,e8,e9,e10,e11,e12]:=by
 have FX:=far (w:=w) 50 (cK x P);have hb:w.heap.size<=w.heap.size+1:=by omega
 have hSt:=KS.Gz (c:=cK x P) (show w.heap.size+1+1≠w.heap.size+1 by omega) (show w.heap.size≠w.heap.size+1 by omega);obtain⟨⟨e1,a1⟩,h1⟩:∃r,dB eP 32 (x.va.map EK) []=r:=⟨_,rfl⟩
 obtain⟨⟨e2,a2⟩,h2⟩:∃r,dB eP 32 (x.rs.map (JW x.sm)) a1=r:=⟨_,rfl⟩
 obtain⟨⟨e3,a3⟩,h3⟩:∃r,dB eP 32 (x.st.map Kj) a2=r:=⟨_,rfl⟩
 obtain⟨⟨e4,a4⟩,h4⟩:∃r,dB eP 32 (x.be.map Ip) a3=r:=⟨_,rfl⟩
 obtain⟨⟨e5,a5⟩,h5⟩:∃r,dB eP 32 (x.qu.map p_) a4=r:=⟨_,rfl⟩
 obtain⟨⟨e6,a6⟩,h6⟩:∃r,dB eP 32 (x.sm.map p_) a5=r:=⟨_,rfl⟩
 obtain⟨⟨e7,a7⟩,h7⟩:∃r,dB eP 32 (x.ta.map p_) a6=r:=⟨_,rfl⟩
 obtain⟨⟨e8,a8⟩,h8⟩:∃r,dB eP 32 (x.le.map p_) a7=r:=⟨_,rfl⟩
 obtain⟨⟨e9,a9⟩,h9⟩:∃r,dB eP 32 (x.co.map p_) a8=r:=⟨_,rfl⟩
 obtain⟨⟨e10,mh⟩,h10⟩:∃r,dB eP 16 (x.ro.map JX) a9=r:=⟨_,rfl⟩
 obtain⟨e11,h11⟩:∃r,BR (yA x.ro) 32 x.ss=r:=⟨_,rfl⟩
 obtain⟨e12,h12⟩:∃r,Gf x=r:=⟨_,rfl⟩
 have HT:Gy x=ic [e1,e2,e3,e4,e5,e6,e7,e8,e9,e10,e11,e12]:=by
  unfold Gy kinds;simp only[UN,h1,h2,h3,h4,h5,h6,h7,h8,h9,h10,h11,h12,FT,idE,ic,tH,BX]
 have l0:([]:List ByteArray).length<=0:=av _;have l1:a1.length<=32:=by
  have q:=zi (g:=fun y=>EK y) (most:=32) (l:=x.va) (s:=[]);rw[← oD (f:=eP),h1] at q;have q2:a1.length<=([]:List ByteArray).length+32:=q;omega
 have l2:a2.length<=64:=by
  have q:=zi (g:=fun y=>(JW x.sm) y) (most:=32) (l:=x.rs) (s:=a1);rw[← oD (f:=eP),h2] at q;have q2:a2.length<=(a1:List ByteArray).length+32:=q;omega
 have l3:a3.length<=96:=by
  have q:=zi (g:=fun y=>Kj y) (most:=32) (l:=x.st) (s:=a2);rw[← oD (f:=eP),h3] at q;have q2:a3.length<=(a2:List ByteArray).length+32:=q;omega
 have l4:a4.length<=128:=by
  have q:=zi (g:=fun y=>Ip y) (most:=32) (l:=x.be) (s:=a3);rw[← oD (f:=eP),h4] at q;have q2:a4.length<=(a3:List ByteArray).length+32:=q;omega
 have l5:a5.length<=160:=by
  have q:=zi (g:=fun y=>p_ y) (most:=32) (l:=x.qu) (s:=a4);rw[← oD (f:=eP),h5] at q;have q2:a5.length<=(a4:List ByteArray).length+32:=q;omega
 have l6:a6.length<=192:=by
  have q:=zi (g:=fun y=>p_ y) (most:=32) (l:=x.sm) (s:=a5);rw[← oD (f:=eP),h6] at q;have q2:a6.length<=(a5:List ByteArray).length+32:=q;omega
 have l7:a7.length<=224:=by
  have q:=zi (g:=fun y=>p_ y) (most:=32) (l:=x.ta) (s:=a6);rw[← oD (f:=eP),h7] at q;have q2:a7.length<=(a6:List ByteArray).length+32:=q;omega
 have l8:a8.length<=256:=by
  have q:=zi (g:=fun y=>p_ y) (most:=32) (l:=x.le) (s:=a7);rw[← oD (f:=eP),h8] at q;have q2:a8.length<=(a7:List ByteArray).length+32:=q;omega
 have l9:a9.length<=288:=by
  have q:=zi (g:=fun y=>p_ y) (most:=32) (l:=x.co) (s:=a8);rw[← oD (f:=eP),h9] at q;have q2:a9.length<=(a8:List ByteArray).length+32:=q;omega
 have l10:mh.length<=304:=by
  have q:=zi (g:=fun y=>JX y) (most:=16) (l:=x.ro) (s:=a9);rw[← oD (f:=eP),h10] at q;have q2:mh.length<=(a9:List ByteArray).length+16:=q;omega
 have C1:∀W,ek w x P [] W->ak af 51 #[.slice P.yP P.yO P.yN,.int .i64 32,.func (.func 52) #[.map (U (w.heap.size+1))] #[]] W (fun e W2=>e=.returned (.int .i64 e1)/\ek w x P a1 W2):=fun W hW=>by
  have q:=YQ (c:=P.yN) hb hSt hx.va hz.va 32 aqE [] cz W hW;rw[h1] at q;exact q
 have C2:∀W,ek w x P a1 W->ak af 140 #[.slice P.wS P.wR P.qQ,.int .i64 32,.func (.func 141) #[] #[.pointer (U ⟨w.heap.size+1+1,0,Y⟩),.pointer (U ⟨w.heap.size,0,Y⟩)]] W (fun e W2=>e=.returned (.int .i64 e2)/\ek w x P a2 W2):=fun W hW=>by
  have q:=ai6 hx hz hb (show w.heap.size+1+1≠w.heap.size+1 by omega) (show w.heap.size≠w.heap.size+1 by omega) aqE W hW;rw[h2] at q;exact q
 have C3:∀W,ek w x P a2 W->ak af 143 #[.slice P.wT P.fJ P.yB,.int .i64 32,.func (.func 144) #[] #[.pointer (U ⟨w.heap.size+1+1,0,Y⟩)]] W (fun e W2=>e=.returned (.int .i64 e3)/\ek w x P a3 W2):=fun W hW=>by
  have q:=ai7 hx hz hb (show w.heap.size+1+1≠w.heap.size+1 by omega) (show w.heap.size≠w.heap.size+1 by omega) aqE W hW;rw[h3] at q;exact q
 have C4:∀W,ek w x P a3 W->ak af 146 #[.slice P.vM P.vL P.xw,.int .i64 32,.func (.func 147) #[] #[.pointer (U ⟨w.heap.size+1+1,0,Y⟩)]] W (fun e W2=>e=.returned (.int .i64 e4)/\ek w x P a4 W2):=fun W hW=>by
  have q:=ai3 hx hz hb (show w.heap.size+1+1≠w.heap.size+1 by omega) (show w.heap.size≠w.heap.size+1 by omega) aqE W hW;rw[h4] at q;exact q
 have C5:∀W,ek w x P a4 W->ak af 149 #[.slice P.yn P.ym P.yj,.int .i64 32,.func (.func 91) #[.map (U (w.heap.size+1))] #[]] W (fun e W2=>e=.returned (.int .i64 e5)/\ek w x P a5 W2):=fun W hW=>by
  have q:=IK (c:=P.yj) hb hSt hx.qu hz.qu 32 aqE a4 aqE W hW;rw[h5] at q;exact q
 have C6:∀W,ek w x P a5 W->ak af 149 #[.slice P.uX P.uW P.uV,.int .i64 32,.func (.func 91) #[.map (U (w.heap.size+1))] #[]] W (fun e W2=>e=.returned (.int .i64 e6)/\ek w x P a6 W2):=fun W hW=>by
  have q:=IK (c:=P.uV) hb hSt hx.sm hz.sm 32 aqE a5 aqE W hW;rw[h6] at q;exact q
 have C7:∀W,ek w x P a6 W->ak af 149 #[.slice P.yD P.yC P.tac,.int .i64 32,.func (.func 91) #[.map (U (w.heap.size+1))] #[]] W (fun e W2=>e=.returned (.int .i64 e7)/\ek w x P a7 W2):=fun W hW=>by
  have q:=IK (c:=P.tac) hb hSt hx.ta hz.ta 32 aqE a6 aqE W hW;rw[h7] at q;exact q
 have C8:∀W,ek w x P a7 W->ak af 149 #[.slice P.xP P.xO P.xN,.int .i64 32,.func (.func 91) #[.map (U (w.heap.size+1))] #[]] W (fun e W2=>e=.returned (.int .i64 e8)/\ek w x P a8 W2):=fun W hW=>by
  have q:=IK (c:=P.xN) hb hSt hx.le hz.le 32 aqE a7 aqE W hW;rw[h8] at q;exact q
 have C9:∀W,ek w x P a8 W->ak af 149 #[.slice P.xB P.xA P.xz,.int .i64 32,.func (.func 91) #[.map (U (w.heap.size+1))] #[]] W (fun e W2=>e=.returned (.int .i64 e9)/\ek w x P a9 W2):=fun W hW=>by
  have q:=IK (c:=P.xz) hb hSt hx.co hz.co 32 aqE a8 aqE W hW;rw[h9] at q;exact q
 have PI:∀W,ek w x P a9 W->ak af 150 #[.slice P.yt P.tJ P.A7,.int .i64 16,.func (.func 151) #[] #[.pointer (U ⟨w.heap.size+1+1,0,Y⟩)]] W (fun e W2=>e=.returned (.int .i64 e10)/\ek w x P mh W2):=fun W hW=>by
  have q:=ai5 hx hz hb (show w.heap.size+1+1≠w.heap.size+1 by omega) (show w.heap.size≠w.heap.size+1 by omega) aqE W hW;rw[h10] at q;exact q
 have C11:∀W,ek w x P mh W->ak af 153 #[.slice P.Ci P.Ch P.EE,.int .i64 32,.func (.func 154) #[] #[.pointer (U ⟨w.heap.size,0,Y⟩)]] W (fun e W2=>e=.returned (.int .i64 e11)/\ek w x P mh W2):=fun W hW=>by
  rw[← h11];exact(apo x P w hx w.heap.size W hW.below hW.k.2).mono fun e W2 h=>⟨h.1,hW.at h.2⟩
 have C12:∀W,ek w x P mh W->ak af 156 #[.agg (cK x P)] W (fun e W2=>e=.returned (.int .i64 e12)/\ek w x P mh W2):=fun W hW=>by
  rw[← h12];exact(ahy hK x P W ((hx.below hW.below).up hW.below.size) hz.la).mono fun e W2 h=>⟨h.1,hW.at h.2⟩
 have FS:∀(acc:List ByteArray) (V W:X),ek w x P acc V->au V.heap.size V W->iZ w P x n13 W:=fun acc V W h hW=>by
  have g:=h.at hW;have q:=g.k.2;exact⟨q.get (XM x P),q.get (XR x P),q.get (XT x P),q.get (XU x P),q.get (XV x P),q.get (QY x P),q.get (XW x P),q.get (XX x P),q.get (XY x P),q.get (L_ x P),q.get (XN x P),g.k.1,q.cell.gJ jF⟩
 have HI0:ek w x P [] (((w.alloc (.cells (cK x P) 50)).alloc (.map #[] 0)).alloc (.cells #[.map (U (w.heap.size+1))] 106)):=⟨bl,(J8 (w:=w.alloc (.cells (cK x P) 50)) (n:=w.heap.size+1) cz).on bl,by go_simp,FX.out _ bl⟩
 exact⟨e1,e2,e3,e4,e5,e6,e7,e8,e9,e10,e11,e12,a1,a2,a3,a4,a5,a6,a7,a8,a9,mh,⟨C1,C2,C3,C4,C5,C6,C7,C8,C9,PI,C11,C12,FS,HI0⟩,HT⟩
end Md
namespace Md
open Go.RowKit Go.Maps
open Sm (ic oL)
open Ex (Lo Gives)
theorem ayd {p:Prop} (h:p:=by
 clear hHeld HC hI0 hV hmm;exact Ho
 ):p:=h
theorem ayb {p:Prop} (h:p:=by
 intro W2 hS2;replace hS2:=(show iZ w P x n13 W2 from hS2)
 exact ayd
 ):p:=h
theorem aye {p:Prop} (h:p:=by
 intro W2 hS2;replace hS2:=(show iZ w P x n13 W2 from hS2)
 have q12:=hS2.f12;exact ayd
 ):p:=h
theorem ao1 (x:cZ) (P:fe) (w:X) (n13:Nat) (BK:∀w,(sizeOf 50).run af w=.ok n13 w) (e1 e2 e3 e4 e5 e6 e7 e8 e9 e10 e11 e12:Int) (a1 a2 a3 a4 a5 a6 a7 a8 a9 mh:List ByteArray) (HC:WY w x P n13 e1 e2 e3 e4 e5 e6 e7 e8 e9 e10 e11 e12 a1 a2 a3 a4 a5 a6 a7 a8 a9 mh):ak af 96 #[.agg (cK x P)] w (Gives (.int .i64 (ic [e1,e2,e3,e4,e5,e6,e7,e8,e9,e10,e11,e12])) w):=by
 have hmm:=@run_makeMap af;obtain⟨V,hV⟩:∃V,ic [e1,e2,e3,e4,e5,e6,e7,e8,e9,e10,e11,e12]=V:=⟨_,rfl⟩
 rw[hV];replace hV:=ax hV;go_enter func96,ntmps96;go_wp2_with fail;have hI0:=HC.hi;refine wp_region_noPanic ?_;refine wp_region_held_drew (S:=(fun(W:X)=>iZ w P x n13 W)) dA (show((fun(W:X)=>iZ w P x n13 W)) _ from(HC.fs _ _ _ hI0 bl)) (fun hHeld=>?_);refine htake 0 ((.pointer (U ⟨w.heap.size,1,Y⟩):aj)) (hy:=?_) (h:=?_)
 · exact ayb
 try simp only[ag,sA,sB,sC]
 refine htake 1 ((.slice P.yP P.yO P.yN:aj)) (hy:=?_) (h:=?_)
 · intro W2 hS2;replace hS2:=(show iZ w P x n13 W2 from hS2)
   have q1:=hS2.f1;exact ayd
 try simp only[ag,sA,sB,sC]
 refine htake 2 ((.map (U (w.heap.size+1)):aj)) (hy:=?_) (h:=?_)
 · exact aye
 try simp only[ag,sA,sB,sC]
 refine htake 3 ((.func (.func 52) #[.map (U (w.heap.size+1))] #[]:aj)) (hy:=?_) (h:=?_)
 · exact ayb
 try simp only[ag,sA,sB,sC]
 refine htake 5 ((.pointer (U ⟨w.heap.size,2,Y⟩):aj)) (hy:=?_) (h:=?_)
 · exact ayb
 try simp only[ag,sA,sB,sC]
 refine htake 6 ((.slice P.wS P.wR P.qQ:aj)) (hy:=?_) (h:=?_)
 · intro W2 hS2;replace hS2:=(show iZ w P x n13 W2 from hS2)
   have q2:=hS2.f2;exact ayd
 try simp only[ag,sA,sB,sC]
 refine htake 7 ((.func (.func 141) #[] #[.pointer (U ⟨w.heap.size+1+1,0,Y⟩),.pointer (U ⟨w.heap.size,0,Y⟩)]:aj)) (hy:=?_) (h:=?_)
 · exact ayb
 try simp only[ag,sA,sB,sC]
 refine htake 9 ((.pointer (U ⟨w.heap.size,3,Y⟩):aj)) (hy:=?_) (h:=?_)
 · exact ayb
 try simp only[ag,sA,sB,sC]
 refine htake 10 ((.slice P.wT P.fJ P.yB:aj)) (hy:=?_) (h:=?_)
 · intro W2 hS2;replace hS2:=(show iZ w P x n13 W2 from hS2)
   have q3:=hS2.f3;exact ayd
 try simp only[ag,sA,sB,sC]
 refine htake 11 ((.func (.func 144) #[] #[.pointer (U ⟨w.heap.size+1+1,0,Y⟩)]:aj)) (hy:=?_) (h:=?_)
 · exact ayb
 try simp only[ag,sA,sB,sC]
 refine htake 13 ((.pointer (U ⟨w.heap.size,4,Y⟩):aj)) (hy:=?_) (h:=?_)
 · exact ayb
 try simp only[ag,sA,sB,sC]
 refine htake 14 ((.slice P.vM P.vL P.xw:aj)) (hy:=?_) (h:=?_)
 · intro W2 hS2;replace hS2:=(show iZ w P x n13 W2 from hS2)
   have q4:=hS2.f4;exact ayd
 try simp only[ag,sA,sB,sC]
 refine htake 15 ((.func (.func 147) #[] #[.pointer (U ⟨w.heap.size+1+1,0,Y⟩)]:aj)) (hy:=?_) (h:=?_)
 · exact ayb
 try simp only[ag,sA,sB,sC]
 refine htake 17 ((.pointer (U ⟨w.heap.size,5,Y⟩):aj)) (hy:=?_) (h:=?_)
 · exact ayb
 try simp only[ag,sA,sB,sC]
 refine htake 18 ((.slice P.yn P.ym P.yj:aj)) (hy:=?_) (h:=?_)
 · intro W2 hS2;replace hS2:=(show iZ w P x n13 W2 from hS2)
   have q5:=hS2.f5;exact ayd
 try simp only[ag,sA,sB,sC]
 refine htake 19 ((.map (U (w.heap.size+1)):aj)) (hy:=?_) (h:=?_)
 · exact aye
 try simp only[ag,sA,sB,sC]
 refine htake 20 ((.func (.func 91) #[.map (U (w.heap.size+1))] #[]:aj)) (hy:=?_) (h:=?_)
 · exact ayb
 try simp only[ag,sA,sB,sC]
 refine htake 22 ((.pointer (U ⟨w.heap.size,6,Y⟩):aj)) (hy:=?_) (h:=?_)
 · exact ayb
 try simp only[ag,sA,sB,sC]
 refine htake 23 ((.slice P.uX P.uW P.uV:aj)) (hy:=?_) (h:=?_)
 · intro W2 hS2;replace hS2:=(show iZ w P x n13 W2 from hS2)
   have q6:=hS2.f6;exact ayd
 try simp only[ag,sA,sB,sC]
 refine htake 24 ((.map (U (w.heap.size+1)):aj)) (hy:=?_) (h:=?_)
 · exact aye
 try simp only[ag,sA,sB,sC]
 refine htake 25 ((.func (.func 91) #[.map (U (w.heap.size+1))] #[]:aj)) (hy:=?_) (h:=?_)
 · exact ayb
 try simp only[ag,sA,sB,sC]
 refine htake 27 ((.pointer (U ⟨w.heap.size,7,Y⟩):aj)) (hy:=?_) (h:=?_)
 · exact ayb
 try simp only[ag,sA,sB,sC]
 refine htake 28 ((.slice P.yD P.yC P.tac:aj)) (hy:=?_) (h:=?_)
 · intro W2 hS2;replace hS2:=(show iZ w P x n13 W2 from hS2)
   have q7:=hS2.f7;exact ayd
 try simp only[ag,sA,sB,sC]
 refine htake 29 ((.map (U (w.heap.size+1)):aj)) (hy:=?_) (h:=?_)
 · exact aye
 try simp only[ag,sA,sB,sC]
 refine htake 30 ((.func (.func 91) #[.map (U (w.heap.size+1))] #[]:aj)) (hy:=?_) (h:=?_)
 · exact ayb
 try simp only[ag,sA,sB,sC]
 refine htake 32 ((.pointer (U ⟨w.heap.size,8,Y⟩):aj)) (hy:=?_) (h:=?_)
 · exact ayb
 try simp only[ag,sA,sB,sC]
 refine htake 33 ((.slice P.xP P.xO P.xN:aj)) (hy:=?_) (h:=?_)
 · intro W2 hS2;replace hS2:=(show iZ w P x n13 W2 from hS2)
   have q8:=hS2.f8;exact ayd
 try simp only[ag,sA,sB,sC]
 refine htake 34 ((.map (U (w.heap.size+1)):aj)) (hy:=?_) (h:=?_)
 · exact aye
 try simp only[ag,sA,sB,sC]
 refine htake 35 ((.func (.func 91) #[.map (U (w.heap.size+1))] #[]:aj)) (hy:=?_) (h:=?_)
 · exact ayb
 try simp only[ag,sA,sB,sC]
 refine htake 37 ((.pointer (U ⟨w.heap.size,9,Y⟩):aj)) (hy:=?_) (h:=?_)
 · exact ayb
 try simp only[ag,sA,sB,sC]
 refine htake 38 ((.slice P.xB P.xA P.xz:aj)) (hy:=?_) (h:=?_)
 · intro W2 hS2;replace hS2:=(show iZ w P x n13 W2 from hS2)
   have q9:=hS2.f9;exact ayd
 try simp only[ag,sA,sB,sC]
 refine htake 39 ((.map (U (w.heap.size+1)):aj)) (hy:=?_) (h:=?_)
 · exact aye
 try simp only[ag,sA,sB,sC]
 refine htake 40 ((.func (.func 91) #[.map (U (w.heap.size+1))] #[]:aj)) (hy:=?_) (h:=?_)
 · exact ayb
 try simp only[ag,sA,sB,sC]
 refine htake 42 ((.pointer (U ⟨w.heap.size,10,Y⟩):aj)) (hy:=?_) (h:=?_)
 · exact ayb
 try simp only[ag,sA,sB,sC]
 refine htake 43 ((.slice P.yt P.tJ P.A7:aj)) (hy:=?_) (h:=?_)
 · intro W2 hS2;replace hS2:=(show iZ w P x n13 W2 from hS2)
   have wP:=hS2.f10;exact ayd
 try simp only[ag,sA,sB,sC]
 refine htake 44 ((.func (.func 151) #[] #[.pointer (U ⟨w.heap.size+1+1,0,Y⟩)]:aj)) (hy:=?_) (h:=?_)
 · exact ayb
 try simp only[ag,sA,sB,sC]
 refine htake 46 ((.pointer (U ⟨w.heap.size,11,Y⟩):aj)) (hy:=?_) (h:=?_)
 · exact ayb
 try simp only[ag,sA,sB,sC]
 refine htake 47 ((.slice P.Ci P.Ch P.EE:aj)) (hy:=?_) (h:=?_)
 · intro W2 hS2;replace hS2:=(show iZ w P x n13 W2 from hS2)
   have NL:=hS2.f11;exact ayd
 try simp only[ag,sA,sB,sC]
 refine htake 48 ((.func (.func 154) #[] #[.pointer (U ⟨w.heap.size,0,Y⟩)]:aj)) (hy:=?_) (h:=?_)
 · exact ayb
 try simp only[ag,sA,sB,sC]
 refine htake 50 ((.agg (cK x P):aj)) (hy:=?_) (h:=?_)
 · intro W2 hS2;replace hS2:=(show iZ w P x n13 W2 from hS2)
   have q13:=hS2.f13;exact ayd
 try simp only[ag,sA,sB,sC]
 refine jW [4] ?_;refine jr (fun K hK=>?_) ?_;rotate_left 1
 · exact ah
 go_simp
 refine(HC.c1 _ (hI0.at bl)).mono ?_;rintro e v1 ⟨rfl,hI1⟩;clear hHeld;refine hK.out _ _ (show((fun(W:X)=>iZ w P x n13 W)) _ from(HC.fs _ _ _ hI1 bl)) (fun hHeld=>?_);clear hK K
 (try simp only[ag,sA,sB,sC])
 refine jW [8] ?_;refine jr (fun K hK=>?_) ?_;rotate_left 1
 · exact ah
 go_simp
 refine(HC.c2 _ (hI1.at bl)).mono ?_;rintro e v2 ⟨rfl,hI2⟩;clear hHeld;refine hK.out _ _ (show((fun(W:X)=>iZ w P x n13 W)) _ from(HC.fs _ _ _ hI2 bl)) (fun hHeld=>?_);clear hK K
 (try simp only[ag,sA,sB,sC])
 refine jW [12] ?_;refine jr (fun K hK=>?_) ?_;rotate_left 1
 · exact ah
 go_simp
 refine(HC.c3 _ (hI2.at bl)).mono ?_;rintro e v3 ⟨rfl,hI3⟩;clear hHeld;refine hK.out _ _ (show((fun(W:X)=>iZ w P x n13 W)) _ from(HC.fs _ _ _ hI3 bl)) (fun hHeld=>?_);clear hK K
 (try simp only[ag,sA,sB,sC])
 refine jW [16] ?_;refine jr (fun K hK=>?_) ?_;rotate_left 1
 · exact ah
 go_simp
 refine(HC.c4 _ (hI3.at bl)).mono ?_;rintro e v4 ⟨rfl,hI4⟩;clear hHeld;refine hK.out _ _ (show((fun(W:X)=>iZ w P x n13 W)) _ from(HC.fs _ _ _ hI4 bl)) (fun hHeld=>?_);clear hK K
 (try simp only[ag,sA,sB,sC])
 refine jW [21] ?_;refine jr (fun K hK=>?_) ?_;rotate_left 1
 · exact ah
 go_simp
 refine(HC.c5 _ (hI4.at bl)).mono ?_;rintro e v5 ⟨rfl,hI5⟩;clear hHeld;refine hK.out _ _ (show((fun(W:X)=>iZ w P x n13 W)) _ from(HC.fs _ _ _ hI5 bl)) (fun hHeld=>?_);clear hK K
 (try simp only[ag,sA,sB,sC])
 refine jW [26] ?_;refine jr (fun K hK=>?_) ?_;rotate_left 1
 · exact ah
 go_simp
 refine(HC.c6 _ (hI5.at bl)).mono ?_;rintro e v6 ⟨rfl,hI6⟩;clear hHeld;refine hK.out _ _ (show((fun(W:X)=>iZ w P x n13 W)) _ from(HC.fs _ _ _ hI6 bl)) (fun hHeld=>?_);clear hK K
 (try simp only[ag,sA,sB,sC])
 refine jW [31] ?_;refine jr (fun K hK=>?_) ?_;rotate_left 1
 · exact ah
 go_simp
 refine(HC.c7 _ (hI6.at bl)).mono ?_;rintro e v7 ⟨rfl,hI7⟩;clear hHeld;refine hK.out _ _ (show((fun(W:X)=>iZ w P x n13 W)) _ from(HC.fs _ _ _ hI7 bl)) (fun hHeld=>?_);clear hK K
 (try simp only[ag,sA,sB,sC])
 refine jW [36] ?_;refine jr (fun K hK=>?_) ?_;rotate_left 1
 · exact ah
 go_simp
 refine(HC.c8 _ (hI7.at bl)).mono ?_;rintro e v8 ⟨rfl,hI8⟩;clear hHeld;refine hK.out _ _ (show((fun(W:X)=>iZ w P x n13 W)) _ from(HC.fs _ _ _ hI8 bl)) (fun hHeld=>?_);clear hK K
 (try simp only[ag,sA,sB,sC])
 refine jW [41] ?_;refine jr (fun K hK=>?_) ?_;rotate_left 1
 · exact ah
 go_simp
 refine(HC.c9 _ (hI8.at bl)).mono ?_;rintro e v9 ⟨rfl,hI9⟩;clear hHeld;refine hK.out _ _ (show((fun(W:X)=>iZ w P x n13 W)) _ from(HC.fs _ _ _ hI9 bl)) (fun hHeld=>?_);clear hK K
 (try simp only[ag,sA,sB,sC])
 refine jW [45] ?_;refine jr (fun K hK=>?_) ?_;rotate_left 1
 · exact ah
 go_simp
 refine(HC.c10 _ (hI9.at bl)).mono ?_;rintro e v10 ⟨rfl,aam⟩;clear hHeld;refine hK.out _ _ (show((fun(W:X)=>iZ w P x n13 W)) _ from(HC.fs _ _ _ aam bl)) (fun hHeld=>?_);clear hK K
 (try simp only[ag,sA,sB,sC])
 refine jW [49] ?_;refine jr (fun K hK=>?_) ?_;rotate_left 1
 · exact ah
 go_simp
 refine(HC.c11 _ (aam.at bl)).mono ?_;rintro e v11 ⟨rfl,aan⟩;clear hHeld;refine hK.out _ _ (show((fun(W:X)=>iZ w P x n13 W)) _ from(HC.fs _ _ _ aan bl)) (fun hHeld=>?_);clear hK K
 (try simp only[ag,sA,sB,sC])
 refine jW [51] ?_;refine jr (fun K hK=>?_) ?_;rotate_left 1
 · exact ah
 go_simp
 refine(HC.c12 _ (aan.at bl)).mono ?_;rintro e v12 ⟨rfl,MZ⟩;clear hHeld;refine hK.out _ _ (show((fun(W:X)=>iZ w P x n13 W)) _ from(HC.fs _ _ _ MZ bl)) (fun hHeld=>?_);clear hK K
 (try simp only[ag,sA,sB,sC])
 refine jW [52] ?_;refine jr (fun K hK=>?_) ?_;rotate_left 1
 · exact ah
 go_simp
 clear hHeld;refine hK.out _ _ (show((fun(W:X)=>iZ w P x n13 W)) _ from(HC.fs _ _ _ MZ bl)) (fun hHeld=>?_);clear hK K
 (try simp only[ag,sA,sB,sC])
 refine jW [53] ?_;refine jr (fun K hK=>?_) ?_;rotate_left 1
 · exact ah
 go_simp
 refine(oL [e1,e2,e3,e4,e5,e6,e7,e8,e9,e10,e11,e12] _ 12 12 _ rfl bU (ax (ahp _ _ _ _ _ _ _ _ _ _ _ _ _ _))).mono ?_;rintro e w9 ⟨rfl,rfl⟩;clear hHeld;refine hK.out _ _ (show((fun(W:X)=>iZ w P x n13 W)) _ from(HC.fs _ _ _ MZ bl)) (fun hHeld=>?_);clear hK K
 (try simp only[ag,sA,sB,sC])
 refine wpAnyH_take (i:=54) (oi:={ dst:=U 2,op:=Op.assign (Operand.tmp 58),type:=27,pos := "model.go:185",after:=#[{ on:=53,ground:=Ground.data },{ on:=53,ground:=Ground.chain },{ on:=0,ground:=ae },{ on:=1,ground:=ae },{ on:=2,ground:=ae },{ on:=3,ground:=ae },{ on:=4,ground:=ae },{ on:=5,ground:=ae },{ on:=6,ground:=ae },{ on:=7,ground:=ae },{ on:=8,ground:=ae },{ on:=9,ground:=ae },{ on:=10,ground:=ae },{ on:=11,ground:=ae },{ on:=12,ground:=ae },{ on:=13,ground:=ae },{ on:=14,ground:=ae },{ on:=15,ground:=ae },{ on:=16,ground:=ae },{ on:=17,ground:=ae },{ on:=18,ground:=ae },{ on:=19,ground:=ae },{ on:=20,ground:=ae },{ on:=21,ground:=ae },{ on:=22,ground:=ae },{ on:=23,ground:=ae },{ on:=24,ground:=ae },{ on:=25,ground:=ae },{ on:=26,ground:=ae },{ on:=27,ground:=ae },{ on:=28,ground:=ae },{ on:=29,ground:=ae },{ on:=30,ground:=ae },{ on:=31,ground:=ae },{ on:=32,ground:=ae },{ on:=33,ground:=ae },{ on:=34,ground:=ae },{ on:=35,ground:=ae },{ on:=36,ground:=ae },{ on:=37,ground:=ae },{ on:=38,ground:=ae },{ on:=39,ground:=ae },{ on:=40,ground:=ae },{ on:=41,ground:=ae },{ on:=42,ground:=ae },{ on:=43,ground:=ae },{ on:=44,ground:=ae },{ on:=45,ground:=ae },{ on:=46,ground:=ae },{ on:=47,ground:=ae },{ on:=48,ground:=ae },{ on:=49,ground:=ae },{ on:=50,ground:=ae },{ on:=51,ground:=ae },{ on:=52,ground:=ae },{ on:=53,ground:=ae }],guard:=Y }) (v:=(.int .i64 (ic [e1,e2,e3,e4,e5,e6,e7,e8,e9,e10,e11,e12]):aj)) rfl dA dA dA (fun _ _ _ h=>h) (Or.inl ⟨by rfl,?_⟩) (by assumption) ?_
 · exact ayb
 try simp only[ag,sA,sB,sC]
 refine wpAnyH_done dA ?_ _;refine NoPanic.normal ?_;have afF:=ax MZ.below;go_wp2_with fail;go_ret;exact⟨by rw[← hV.out];rfl,by have bZ:=afF.out;exact bl⟩
theorem ahD (hK:vI) (x:cZ) (P:fe) (w:X) (hx:jc (Lo w.heap.size) w x P) (hz:Bv x):ak af 96 #[.agg (cK x P)] w (Gives (.int .i64 (Gy x)) w):=by
 obtain⟨n13,jF⟩:∃n:Nat,13=n:=⟨_,rfl⟩
 obtain⟨e1,e2,e3,e4,e5,e6,e7,e8,e9,e10,e11,e12,a1,a2,a3,a4,a5,a6,a7,a8,a9,mh,HC,HT⟩:=ao0 hK x P w hx hz n13 jF;rw[HT];exact ao1 x P w n13 (fun w=>by rw[sizeOf50,jF]) e1 e2 e3 e4 e5 e6 e7 e8 e9 e10 e11 e12 a1 a2 a3 a4 a5 a6 a7 a8 a9 mh HC
end Md
end Go.Proofs.YthnillhnjhalmaaGreatDoor
