/-
  Parts of this proof: The contracts of checkLaw, checkLaws, checkLinks.
-/
import Derived.Test.YtbgodajefaahdaaGreatDoorYQTrm
import Derived.Test.YtbgodajefaahdaaGreatDoorYQStr
open Go.Proofs.Tryz renaming prog->ae
open Nat renaming lt_of_lt_of_le->af
open Go renaming World->ag
open Go.RowKit renaming Below->ah
open Option renaming some->ai,none->aj
set_option linter.unusedVariables false
open Go.Lib (hid)
namespace Go.Proofs.YtbgodajefaahdaaGreatDoor
namespace Md
open Go.RowKit Go.Maps
open Sm (dR uk lJ)
open Ex (Lo Gives)
attribute [local go_sem] Ec Jb Ga Eh Eg Gb Gc Cg Ed
set_option maxHeartbeats 4000000
theorem agH {p:Prop} (h:p:=by
 clear HE;go_enter Tryz.func167,Tryz.ntmps167;go_wp2_with fail;refine(CT.out _ bl (FX.out _ (Below.refl _ _)).1).mono ?_;rintro e v1 ⟨rfl,hb1⟩;have q:=FY.out v1 bl;go_wp2_with fail;refine(CN.out _).mono ?_;rintro e v3 ⟨rfl,rfl⟩;go_wp2_with fail;go_ret;exact⟨rfl,bl⟩
 ):p:=h
set_option maxRecDepth 100000 in
theorem ajV (hK:wC) (x:b_) (P:fe) (l:Lw) (Q:rR) (w:ag) (hx:iT (Lo w.heap.size) w x P) (hl:oL (Lo w.heap.size) w l Q):Calls ae 167 #[.agg (bX x P),.agg (fo l Q)] w (Gives (.int .i64 (xh x l)) w):=by
 have HX:=hid hx;have HL:=hid hl;have FX:=rq (w:=w) 53 127 (bX x P) (fo l Q);obtain⟨hlm,hm⟩:=hl.ts.len;by_cases h0:Q.Bw=0
 · rw[show xh x l=7 by unfold xh;rw[if_pos (by omega)]];have d0:((Q.Bw:Int)==0)=true:=by rw[h0];rfl
   clear hx hl hlm hm h0;go_enter Tryz.func167,Tryz.ntmps167;go_wp2_with fail;go_ret;exact⟨rfl,bl⟩
 have d0:((Q.Bw:Int)==0)=false:=beq_eq_false_iff_ne.2 (by omega);obtain⟨v,hv⟩:∃v,AY (rO x) 8 l.ts=v:=⟨_,rfl⟩
 obtain⟨r,hr⟩:∃v,iX (-1000000000000) l.tt 1000000000000=v:=⟨_,rfl⟩
 have CT:=hid (fun W (hW:ah w.heap.size w W) (hB:bT W w.heap.size 53 (bX x P))=>(show Calls ae 193 #[.slice Q.Dz Q.Bw Q.Fv,.int .i64 8,.func (.func 194) #[] #[.pointer (ai ⟨w.heap.size,0,aj⟩)]] W (Gives (.int .i64 v) W) by
  rw[← hv];exact ar8 hK x P w HX.out HL.out.ts w.heap.size W hW hB))
 have CN:=hid (fun W=>(show Calls ae 107 #[.int .i64 l.tt] W (qA (.bool r) W) by rw[← hr];exact EB _ W));have HE:Hid (xh x l=dR v (if r then 0 else 2)):=hid (by unfold xh;rw[if_neg (by omega),hv,hr]);clear hx hl hlm hm h0 hv hr hK;by_cases hv0:v=0;rotate_left 1
 · rw[show xh x l=v by rw[HE.out,uk hv0]];have t1:(v != 0)=true:=bne_iff_ne.2 hv0;clear HE;go_enter Tryz.func167,Tryz.ntmps167;go_wp2_with fail;refine(CT.out _ bl (FX.out _ (Below.refl _ _)).1).mono ?_;rintro e v1 ⟨rfl,hb1⟩;go_wp2_with fail;go_ret;exact⟨rfl,bl⟩
 subst hv0;have FY:Hid (∀W,ah ((w.alloc (.cells (bX x P) 53)).alloc (.cells (fo l Q) 127)).heap.size ((w.alloc (.cells (bX x P) 53)).alloc (.cells (fo l Q) 127)) W->W.cell? ⟨w.heap.size+1,2,aj⟩=ai (.int .i64 l.tt)):=hid fun W hb=>(FX.out W hb).2.get (Ga l Q)
 cases r with
 | false=>
  rw[show xh x l=2 by rw[HE.out,lJ];rfl];exact agH
 | true=>
  rw[show xh x l=0 by rw[HE.out,lJ];rfl];exact agH
def Ri (w0:ag) (v:Value) (e:Ending) (w':ag):Prop:=e=.returned v/\ah w0.heap.size w0 w'
theorem iT.below {B:Nat} {w w2:ag} (hb:ah B w w2) {x:b_} {P:fe} (h:iT (Lo B) w x P):iT (Lo B) w2 x P:=h.map hb.size fun b g _=>⟨g,hb.block b g⟩
theorem iT.up {B:Nat} {w:ag} (hs:B<=w.heap.size) {x:b_} {P:fe} (h:iT (Lo B) w x P):iT (Lo w.heap.size) w x P:=h.map (Nat.le_refl _) fun b g _=>⟨af g hs,rfl⟩
theorem oL.below {B:Nat} {w w2:ag} (hb:ah B w w2) {x:Lw} {P:rR} (h:oL (Lo B) w x P):oL (Lo B) w2 x P:=h.map hb.size fun b g _=>⟨g,hb.block b g⟩
theorem oL.up {B:Nat} {w:ag} (hs:B<=w.heap.size) {x:Lw} {P:rR} (h:oL (Lo B) w x P):oL (Lo w.heap.size) w x P:=h.map (Nat.le_refl _) fun b g _=>⟨af g hs,rfl⟩
theorem anU (hK:wC) (x:b_) (P:fe) (w0:ag) (hx:iT (Lo w0.heap.size) w0 x P) (hz:∀l∈x.la,l.nm.size<=9223372036854775807) (b B1 B2:Nat) (hb:w0.heap.size<=b) (h1:B1≠b) (h2:B2≠b) (W:ag)
 (hW:fZ w0 b (fun V=>V.cell? ⟨B1,0,aj⟩=ai (.map (ai b))/\bT V B2 53 (bX x P)) [] W) :
 Calls ae 165 #[.slice P.vB P.lam P.rz,.int .i64 ((32:Nat):Int),.func (.func 166) #[] #[.pointer (ai ⟨B1,0,aj⟩),.pointer (ai ⟨B2,0,aj⟩)]] W (fun e W2=>e=.returned (.int .i64 (EG x))/\ah w0.heap.size w0 W2):=by
 have hSt:rT b (fun V=>V.cell? ⟨B1,0,aj⟩=ai (.map (ai b))/\bT V B2 53 (bX x P)):=fun V V2 h hbt=>⟨xY hbt h.1 h1,h.2.but hbt h2⟩
 refine(ali (hid hx.la) #[] #[.pointer (ai ⟨B1,0,aj⟩),.pointer (ai ⟨B2,0,aj⟩)] _ (hid (fZ.fine hb hSt)) (fun a l=>ek a (adQ x l)) 32 (by omega) [] (hid fun k s l c V hxk hm hg hR hI=>?_) W (hid hW)).mono fun e W2 h=>?_
 · rw[R_];obtain⟨Q,rfl,hQ⟩:=hR;have hsh:=AA hm hg;refine(akq l Q b B1 s V hI.vR (by simp at hsh;omega) (hz l (List.mem_of_getElem? hxk)) hI.k.1 h1 B2 (bX x P) (SA x P) hI.k.2 h2 (xh x l) (hid fun V2 hbt=>?_)).mono fun e W2 h=>hI.step hb hSt h;have hb2:ah w0.heap.size w0 V2:=But.below hI.below hbt hb hI.below.size;have hle:w0.heap.size<=V2.heap.size:=hb2.size;have hv2:ah w0.heap.size V V2:=⟨hbt.os,hbt.tape,hbt.output,hbt.size,fun k hk=>hbt.block k (af hk hI.below.size) (by omega)⟩
   exact ajV hK x P l Q V2 ((hx.below hb2).up hle) ((hQ.below hv2).up hle)
 · obtain⟨h3,h4⟩:=h;refine⟨?_,h4.below⟩;rw[h3];unfold EG;rw[pQ]
theorem KU {w:ag} {n:Nat} (h:w.heap.size=n):iW n [] (w.alloc (.map #[] 0)):=by subst h;exact World.ownsMap_made _ _ _ _
theorem apz {w:ag} {n:Nat} (h:w.heap.size=n):wD n [] (w.alloc (.map #[] 0)):=by subst h;exact⟨World.ownsMap_made _ _ _ _,fun p hp=>by cases hp⟩
set_option maxRecDepth 100000 in
theorem ajW (hK:wC) (x:b_) (P:fe) (w:ag) (hx:iT (Lo w.heap.size) w x P) (hz:∀l∈x.la,l.nm.size<=9223372036854775807):Calls ae 125 #[.agg (bX x P)] w (Gives (.int .i64 (EG x)) w):=by
 have FX:=far (w:=w) 53 (bX x P);have hmm:=@run_makeMap ae;obtain⟨v,hv⟩:∃v,EG x=v:=⟨_,rfl⟩
 have CE:=hid (fun W (h1:ah w.heap.size w W) (h2:iW (w.heap.size+1) [] W) (h3:W.cell? ⟨w.heap.size+1+1,0,aj⟩=ai (.map (ai (w.heap.size+1)))) (h4:bT W w.heap.size 53 (bX x P))=>(show Calls ae 165 #[.slice P.vB P.lam P.rz,.int .i64 32,.func (.func 166) #[] #[.pointer (ai ⟨w.heap.size+1+1,0,aj⟩),.pointer (ai ⟨w.heap.size,0,aj⟩)]] W (Ri w (.int .i64 v)) by
  rw[← hv];exact anU hK x P w hx hz (w.heap.size+1) (w.heap.size+1+1) w.heap.size (by omega) (by omega) (by omega) W ⟨h1,h2,h3,h4⟩))
 rw[hv];clear hx hv hz hK;go_enter Tryz.func125,Tryz.ntmps125;go_wp2_with fail;refine(CE.out _ bl ((KU (w:=w.alloc (.cells (bX x P) 53)) (n:=w.heap.size+1) (by simp)).on bl) (by go_simp) (FX.out _ bl)).mono ?_;rintro e v1 ⟨rfl,hb1⟩;go_wp2_with fail;go_ret;exact⟨rfl,hb1⟩
structure MS (w0:ag) (b:Nat) (K:ag->Prop) (acc:List (List UInt8×List UInt8)) (W:ag):Prop where
 below:ah w0.heap.size w0 W
 vR:wD b acc W
 k:K W
theorem MS.fine {w0:ag} {b:Nat} {K:ag->Prop} (hb:w0.heap.size<=b) (hK:rT b K):qR w0 (MS w0 b K) where
 below _ _ h:=h.below
 on s W W2 h hW:=⟨h.below.trans (hW.mono h.below.size),h.vR.on hW,hK W W2 h.k (But.of hW)⟩
theorem arX (si:List b_) (acc:List (List UInt8×List UInt8)) (l:gz):(qj si acc l).2.length<=acc.length+1:=by
 unfold qj;split
 · split <;> simp
 · simp
theorem abS {si:List b_}:∀{l:List gz} {s:List (List UInt8×List UInt8)},(dN (qj si) l s).2.length<=s.length+l.length
 | [],s=>by simp[dN]
 | x::t,s=>by
  have h1:=arX si s x;rw[dN]
  split
  · have h2:=abS (si:=si) (l:=t) (s:=(qj si s x).2);rw[List.length_cons];omega
  · rw[List.length_cons];omega
theorem an5 (M:dx) (PM:kS) (w0:ag) (hx:iG (Lo w0.heap.size) w0 M PM) (hz:∀l∈M.li,l.fr.size<=1000000000/\l.tt.size<=1000000000) (b B1 B2:Nat) (hb:w0.heap.size<=b) (h1:B1≠b) (h2:B2≠b) (W:ag)
 (hW:MS w0 b (fun V=>V.cell? ⟨B1,0,aj⟩=ai (.map (ai b))/\bT V B2 27 (dB M PM)) [] W) :
 Calls ae 75 #[.slice PM.xm PM.lim PM.yx,.int .i64 ((32:Nat):Int),.func (.func 76) #[] #[.pointer (ai ⟨B2,0,aj⟩),.pointer (ai ⟨B1,0,aj⟩)]] W (fun e W2=>e=.returned (.int .i64 (GK M))/\ah w0.heap.size w0 W2):=by
 have hSt:rT b (fun V=>V.cell? ⟨B1,0,aj⟩=ai (.map (ai b))/\bT V B2 27 (dB M PM)):=fun V V2 h hbt=>⟨xY hbt h.1 h1,h.2.but hbt h2⟩
 refine(alh (hid hx.li) #[] #[.pointer (ai ⟨B2,0,aj⟩),.pointer (ai ⟨B1,0,aj⟩)] _ (hid (MS.fine hb hSt)) (qj M.si) 32 (by omega) [] (hid fun k s l c V hxk hm hg hR hI=>?_) W (hid hW)).mono fun e W2 h=>?_
 · rw[R_,show c=oN l from hR];have hl:=abS (si:=M.si) (l:=M.li.take k) (s:=[]);rw[hg,List.length_take] at hl;have hle:s.length<=0+min k M.li.length:=hl;have hz2:=hz l (List.mem_of_getElem? hxk);refine(akp l M PM b B1 B2 s V hI.vR (by omega) hz2.1 hz2.2 hI.k.1 hI.k.2 ?_).mono fun e W2 h=>?_
   · exact hx.si.map gH.map hI.below.size fun bb g _=>⟨af g hI.below.size,hI.below.block bb g⟩
   · exact⟨h.1,⟨But.below hI.below h.2.2 hb hI.below.size,h.2.1,hSt _ _ hI.k h.2.2⟩⟩
 · exact⟨h.1,h.2.below⟩
set_option maxRecDepth 100000 in
theorem ajX (M:dx) (PM:kS) (w:ag) (hx:iG (Lo w.heap.size) w M PM) (hz:∀l∈M.li,l.fr.size<=1000000000/\l.tt.size<=1000000000):Calls ae 39 #[.agg (dB M PM)] w (Gives (.int .i64 (GK M)) w):=by
 have FX:=far (w:=w) 27 (dB M PM);have hmm:=@run_makeMap ae;obtain⟨v,hv⟩:∃v,GK M=v:=⟨_,rfl⟩
 have CE:=hid (fun W (h1:ah w.heap.size w W) (h2:wD (w.heap.size+1) [] W) (h3:W.cell? ⟨w.heap.size+1+1,0,aj⟩=ai (.map (ai (w.heap.size+1)))) (h4:bT W w.heap.size 27 (dB M PM))=>(show Calls ae 75 #[.slice PM.xm PM.lim PM.yx,.int .i64 32,.func (.func 76) #[] #[.pointer (ai ⟨w.heap.size,0,aj⟩),.pointer (ai ⟨w.heap.size+1+1,0,aj⟩)]] W (Ri w (.int .i64 v)) by
  rw[← hv];exact an5 M PM w hx hz (w.heap.size+1) (w.heap.size+1+1) w.heap.size (by omega) (by omega) (by omega) W ⟨h1,h2,h3,h4⟩))
 rw[hv];clear hx hv hz;go_enter Tryz.func39,Tryz.ntmps39;go_wp2_with fail;refine(CE.out _ bl ((apz (w:=w.alloc (.cells (dB M PM) 27)) (n:=w.heap.size+1) (by simp)).on bl) (by go_simp) (FX.out _ bl)).mono ?_;rintro e v1 ⟨rfl,hb1⟩;go_wp2_with fail;go_ret;exact⟨rfl,hb1⟩
theorem pJ.below {B:Nat} {w w2:ag} (hb:ah B w w2) {x:h_} {P:qX} (h:pJ (Lo B) w x P):pJ (Lo B) w2 x P:=h.map hb.size fun b g _=>⟨g,hb.block b g⟩
theorem pJ.up {B:Nat} {w:ag} (hs:B<=w.heap.size) {x:h_} {P:qX} (h:pJ (Lo B) w x P):pJ (Lo w.heap.size) w x P:=h.map (Nat.le_refl _) fun b g _=>⟨af g hs,rfl⟩
set_option maxRecDepth 100000 in
theorem akm (x:b_) (P:fe) (d:h_) (Q:qX) (B:Nat) (w:ag) (hx:Rw 4 gT (Lo w.heap.size) w x.ro P.mi P.ed) (hd:pJ (Lo w.heap.size) w d Q) (hB:bT w B 53 (bX x P)):Calls ae 123 #[.agg (fB d Q),.pointer (ai ⟨B,0,aj⟩)] w (Gives (.int .i64 (vS x.ro d)) w):=by
 have HX:=hid hx;have HD:=hid hd;obtain⟨n13,jM⟩:∃n:Nat,13=n:=⟨_,rfl⟩
 have Cu:∀w,(sizeOf 53).run ae w=.ok n13 w:=fun w=>by rw[Tryz.sizeOf53,jM]
 have DV:=hid jM;obtain⟨n5,Uj⟩:∃n:Nat,5=n:=⟨_,rfl⟩
 have hsz5:∀w,(sizeOf 122).run ae w=.ok n5 w:=fun w=>by rw[Tryz.sizeOf122,Uj]
 have ld:=(hB.on (show ah w.heap.size w (w.alloc (.cells (fB d Q) 122)) by exact bl)).cell.dW DV.out;have OU:=fun W=>run_loadCellsFrom_new (P:=ae) W 122 (fB d Q) n5 (by rw[ZU];exact Uj);obtain⟨V,hV⟩:∃v,vS x.ro d=v:=⟨_,rfl⟩
 have CT:=hid (fun W (hW:ah w.heap.size w W)=>(show Calls ae 124 #[.agg (bX x P),.agg (fB d Q)] W (Gives (.int .i64 V) W) by rw[← hV];exact aj3 x P d Q W (HX.out.on gT.map hW) (HD.out.on hW)));rw[hV];clear hx hd hB jM Uj hV;go_enter Tryz.func123,Tryz.ntmps123;go_wp2_with fail;refine(CT.out _ bl).mono ?_;rintro e v1 ⟨rfl,hb1⟩;go_wp2_with fail;go_ret;exact⟨rfl,bl⟩
theorem arH (x:b_) (P:fe) (w0:ag) (hx:iT (Lo w0.heap.size) w0 x P) (B:Nat) (W:ag) (hW:ah w0.heap.size w0 W) (hB:bT W B 53 (bX x P)) :
 Calls ae 122 #[.slice P.qi P.fG P.nI,.int .i64 ((32:Nat):Int),.func (.func 123) #[] #[.pointer (ai ⟨B,0,aj⟩)]] W (fun e W2=>e=.returned (.int .i64 (AY (vS x.ro) 32 x.ss))/\ah W.heap.size W W2):=by
 have F:qR w0 (fun(_:Unit) V=>ah W.heap.size W V):=⟨fun _ V h=>hW.trans (h.mono hW.size),fun _ V V2 h h2=>h.trans (h2.mono h.size)⟩
 refine(alm (hid hx.ss) #[] #[.pointer (ai ⟨B,0,aj⟩)] (fun(_:Unit) V=>ah W.heap.size W V) (hid F) (fun _ d=>(vS x.ro d,())) 32 (by omega) () (hid fun k s d c V hx2 hm hg hR hI=>?_) W (hid (Below.refl _ _))).mono fun e W2 h=>?_
 · rw[F3];obtain⟨Q,rfl,hQ⟩:=hR;have h0:ah w0.heap.size w0 V:=hW.trans (hI.mono hW.size);exact(akm x P d Q B V (hx.ro.map gT.map h0.size fun b g _=>⟨af g h0.size,h0.block b g⟩) (hQ.up h0.size) (hB.on hI)).mono fun e W2 h=>⟨h.1,hI.trans (h.2.mono hI.size)⟩
 · obtain⟨h1,h2⟩:=h;rw[aaH] at h1;exact⟨h1,h2⟩
end Md
end Go.Proofs.YtbgodajefaahdaaGreatDoor
