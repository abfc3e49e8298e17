/-
  Parts of this proof: The contracts of checkLaw, checkLaws, checkLinks. The contract of checkResource. The contract of checkSite; what Kind gives is as. The walk of checkSite. The contracts of checkSites and of Check. A model among the arguments. How much is read of models.
-/
import Derived.Test.YtbgodajefaahdaaGreatDoorZQTrm
import Derived.Test.YtbgodajefaahdaaGreatDoorZQStr
import Derived.Test.YtbgodajefaahdaaGreatDoorZQPar
import Derived.Test.YtbgodajefaahdaaGreatDoorZQSch
import Derived.Test.YtbgodajefaahdaaGreatDoorZPChk1
set_option linter.unusedSimpArgs false
set_option linter.unusedVariables false
open Go.Lib (hid)
namespace Go.Proofs.YtbgodajefaahdaaGreatDoor.Md
open Go.RowKit Go.Maps
open Go.Proofs.YtbgodajefaahdaaGreatDoor.Sm (orE orE_no orE_yes)
open Go.Proofs.YtbgodajefaahdaaGreatDoor.Ex (Lo Gives)
attribute [local go_sem] cLw0 cLw1 cLw2 cSte12 cSte11 cMdl0 cMdl1 cMdl2 cMdl3
set_option maxHeartbeats 4000000
theorem zFI_0 {p:Prop} (h:p:=by
 clear HE;go_enter Tryz.func167,Tryz.ntmps167;go_wp2_with fail;refine(CT.out _ bl (FX.out _ (Below.refl _ _)).1).mono ?_;rintro e v1 ⟨rfl,hb1⟩;have q:=FY.out v1 bl;go_wp2_with fail;refine(CN.out _).mono ?_;rintro e v3 ⟨rfl,rfl⟩;go_wp2_with fail;go_ret;exact⟨rfl,bl⟩
 ):p:=h
set_option maxRecDepth 100000 in
theorem checkLaw_any (hK:KindC) (x:Ste) (P:PSte) (l:Lw) (Q:PLw) (w:World) (hx:OSte (Lo w.heap.size) w x P) (hl:OLw (Lo w.heap.size) w l Q):Calls Tryz.prog 167 #[.agg (cSte x P),.agg (cLw l Q)] w (Gives (.int .i64 (lawT x l)) w):=by
 have HX:=hid hx;have HL:=hid hl;have FX:=far2 (w:=w) 53 127 (cSte x P) (cLw l Q);obtain⟨hlm,hm⟩:=hl.ts.len;by_cases h0:Q.tsm=0
 · rw[show lawT x l=7 by unfold lawT;rw[if_pos (by omega)]];have d0:((Q.tsm:Int)==0)=true:=by rw[h0];rfl
   clear hx hl hlm hm h0;go_enter Tryz.func167,Tryz.ntmps167;go_wp2_with fail;go_ret;exact⟨rfl,bl⟩
 have d0:((Q.tsm:Int)==0)=false:=beq_eq_false_iff_ne.2 (by omega);obtain⟨v,hv⟩:∃v,lstE (trmE x) 8 l.ts=v:=⟨_,rfl⟩
 obtain⟨r,hr⟩:∃v,btw (-1000000000000) l.tt 1000000000000=v:=⟨_,rfl⟩
 have CT:=hid (fun W (hW:Below w.heap.size w W) (hB:Box W w.heap.size 53 (cSte x P))=>(show Calls Tryz.prog 193 #[.slice Q.tsp Q.tsm Q.tsc,.int .i64 8,.func (.func 194) #[] #[.pointer (some ⟨w.heap.size,0,none⟩)]] W (Gives (.int .i64 v) W) by
  rw[← hv];exact terms_any hK x P w HX.out HL.out.ts w.heap.size W hW hB))
 have CN:=hid (fun W=>(show Calls Tryz.prog 107 #[.int .i64 l.tt] W (Stay (.bool r) W) by rw[← hr];exact in_any _ W));have HE:Hid (lawT x l=orE v (if r then 0 else 2)):=hid (by unfold lawT;rw[if_neg (by omega),hv,hr]);clear hx hl hlm hm h0 hv hr hK;by_cases hv0:v=0;rotate_left 1
 · rw[show lawT x l=v by rw[HE.out,orE_no hv0]];have t1:(v != 0)=true:=bne_iff_ne.2 hv0;clear HE;go_enter Tryz.func167,Tryz.ntmps167;go_wp2_with fail;refine(CT.out _ bl (FX.out _ (Below.refl _ _)).1).mono ?_;rintro e v1 ⟨rfl,hb1⟩;go_wp2_with fail;go_ret;exact⟨rfl,bl⟩
 subst hv0;have FY:Hid (∀W,Below ((w.alloc (.cells (cSte x P) 53)).alloc (.cells (cLw l Q) 127)).heap.size ((w.alloc (.cells (cSte x P) 53)).alloc (.cells (cLw l Q) 127)) W->W.cell? ⟨w.heap.size+1,2,none⟩=some (.int .i64 l.tt)):=hid fun W hb=>(FX.out W hb).2.get (cLw2 l Q)
 cases r with
 | false=>
  rw[show lawT x l=2 by rw[HE.out,orE_yes];rfl];exact zFI_0
 | true=>
  rw[show lawT x l=0 by rw[HE.out,orE_yes];rfl];exact zFI_0
def Gives' (w0:World) (v:Value) (e:Ending) (w':World):Prop:=e=.returned v/\Below w0.heap.size w0 w'
theorem OSte.below {B:Nat} {w w2:World} (hb:Below B w w2) {x:Ste} {P:PSte} (h:OSte (Lo B) w x P):OSte (Lo B) w2 x P:=h.map hb.size fun b g _=>⟨g,hb.block b g⟩
theorem OSte.up {B:Nat} {w:World} (hs:B<=w.heap.size) {x:Ste} {P:PSte} (h:OSte (Lo B) w x P):OSte (Lo w.heap.size) w x P:=h.map (Nat.le_refl _) fun b g _=>⟨Nat.lt_of_lt_of_le g hs,rfl⟩
theorem OLw.below {B:Nat} {w w2:World} (hb:Below B w w2) {x:Lw} {P:PLw} (h:OLw (Lo B) w x P):OLw (Lo B) w2 x P:=h.map hb.size fun b g _=>⟨g,hb.block b g⟩
theorem OLw.up {B:Nat} {w:World} (hs:B<=w.heap.size) {x:Lw} {P:PLw} (h:OLw (Lo B) w x P):OLw (Lo w.heap.size) w x P:=h.map (Nat.le_refl _) fun b g _=>⟨Nat.lt_of_lt_of_le g hs,rfl⟩
theorem laws_each (hK:KindC) (x:Ste) (P:PSte) (w0:World) (hx:OSte (Lo w0.heap.size) w0 x P) (hz:∀l∈x.la,l.nm.size<=9223372036854775807) (b B1 B2:Nat) (hb:w0.heap.size<=b) (h1:B1≠b) (h2:B2≠b) (W:World)
 (hW:Sco w0 b (fun V=>V.cell? ⟨B1,0,none⟩=some (.map (some b))/\Box V B2 53 (cSte x P)) [] W) :
 Calls Tryz.prog 165 #[.slice P.lap P.lam P.lac,.int .i64 ((32:Nat):Int),.func (.func 166) #[] #[.pointer (some ⟨B1,0,none⟩),.pointer (some ⟨B2,0,none⟩)]] W (fun e W2=>e=.returned (.int .i64 (lawsE x))/\Below w0.heap.size w0 W2):=by
 have hSt:Stb b (fun V=>V.cell? ⟨B1,0,none⟩=some (.map (some b))/\Box V B2 53 (cSte x P)):=fun V V2 h hbt=>⟨cell_but hbt h.1 h1,h.2.but hbt h2⟩
 refine(each_Lw (hid hx.la) #[] #[.pointer (some ⟨B1,0,none⟩),.pointer (some ⟨B2,0,none⟩)] _ (hid (Sco.fine hb hSt)) (fun a l=>stepN a (lawP x l)) 32 (by omega) [] (hid fun k s l c V hxk hm hg hR hI=>?_) W (hid hW)).mono fun e W2 h=>?_
 · rw[arg1b];obtain⟨Q,rfl,hQ⟩:=hR;have hsh:=go_short hm hg;refine(clo_Lw l Q b B1 s V hI.scp (by simp at hsh;omega) (hz l (List.mem_of_getElem? hxk)) hI.k.1 h1 B2 (cSte x P) (cSte_size x P) hI.k.2 h2 (lawT x l) (hid fun V2 hbt=>?_)).mono fun e W2 h=>hI.step hb hSt h;have hb2:Below w0.heap.size w0 V2:=But.below hI.below hbt hb hI.below.size;have hle:w0.heap.size<=V2.heap.size:=hb2.size;have hv2:Below w0.heap.size V V2:=⟨hbt.os,hbt.tape,hbt.output,hbt.size,fun k hk=>hbt.block k (Nat.lt_of_lt_of_le hk hI.below.size) (by omega)⟩
   exact checkLaw_any hK x P l Q V2 ((hx.below hb2).up hle) ((hQ.below hv2).up hle)
 · obtain⟨h3,h4⟩:=h;refine⟨?_,h4.below⟩;rw[h3];unfold lawsE;rw[eachE_map]
theorem scp_made {w:World} {n:Nat} (h:w.heap.size=n):Scp n [] (w.alloc (.map #[] 0)):=by subst h;exact World.ownsMap_made _ _ _ _
theorem pcp_made {w:World} {n:Nat} (h:w.heap.size=n):Pcp n [] (w.alloc (.map #[] 0)):=by subst h;exact⟨World.ownsMap_made _ _ _ _,fun p hp=>by cases hp⟩
set_option maxRecDepth 100000 in
theorem checkLaws_any (hK:KindC) (x:Ste) (P:PSte) (w:World) (hx:OSte (Lo w.heap.size) w x P) (hz:∀l∈x.la,l.nm.size<=9223372036854775807):Calls Tryz.prog 125 #[.agg (cSte x P)] w (Gives (.int .i64 (lawsE x)) w):=by
 have FX:=far (w:=w) 53 (cSte x P);have hmm:=@run_makeMap Tryz.prog;obtain⟨v,hv⟩:∃v,lawsE x=v:=⟨_,rfl⟩
 have CE:=hid (fun W (h1:Below w.heap.size w W) (h2:Scp (w.heap.size+1) [] W) (h3:W.cell? ⟨w.heap.size+1+1,0,none⟩=some (.map (some (w.heap.size+1)))) (h4:Box W w.heap.size 53 (cSte x P))=>(show Calls Tryz.prog 165 #[.slice P.lap P.lam P.lac,.int .i64 32,.func (.func 166) #[] #[.pointer (some ⟨w.heap.size+1+1,0,none⟩),.pointer (some ⟨w.heap.size,0,none⟩)]] W (Gives' w (.int .i64 v)) by
  rw[← hv];exact laws_each hK x P w hx hz (w.heap.size+1) (w.heap.size+1+1) w.heap.size (by omega) (by omega) (by omega) W ⟨h1,h2,h3,h4⟩))
 rw[hv];clear hx hv hz hK;go_enter Tryz.func125,Tryz.ntmps125;go_wp2_with fail;refine(CE.out _ bl ((scp_made (w:=w.alloc (.cells (cSte x P) 53)) (n:=w.heap.size+1) (by simp)).on bl) (by go_simp) (FX.out _ bl)).mono ?_;rintro e v1 ⟨rfl,hb1⟩;go_wp2_with fail;go_ret;exact⟨rfl,hb1⟩
structure Pco (w0:World) (b:Nat) (K:World->Prop) (acc:List (List UInt8×List UInt8)) (W:World):Prop where
 below:Below w0.heap.size w0 W
 scp:Pcp b acc W
 k:K W
theorem Pco.fine {w0:World} {b:Nat} {K:World->Prop} (hb:w0.heap.size<=b) (hK:Stb b K):Fine w0 (Pco w0 b K) where
 below _ _ h:=h.below
 on s W W2 h hW:=⟨h.below.trans (hW.mono h.below.size),h.scp.on hW,hK W W2 h.k (But.of hW)⟩
theorem stepK_len (si:List Ste) (acc:List (List UInt8×List UInt8)) (l:Lnk):(stepK si acc l).2.length<=acc.length+1:=by
 unfold stepK;split
 · split <;> simp
 · simp
theorem goK_len {si:List Ste}:∀{l:List Lnk} {s:List (List UInt8×List UInt8)},(goE (stepK si) l s).2.length<=s.length+l.length
 | [],s=>by simp[goE]
 | x::t,s=>by
  have h1:=stepK_len si s x;rw[goE]
  split
  · have h2:=goK_len (si:=si) (l:=t) (s:=(stepK si s x).2);rw[List.length_cons];omega
  · rw[List.length_cons];omega
theorem links_each (M:Mdl) (PM:PMdl) (w0:World) (hx:OMdl (Lo w0.heap.size) w0 M PM) (hz:∀l∈M.li,l.fr.size<=1000000000/\l.tt.size<=1000000000) (b B1 B2:Nat) (hb:w0.heap.size<=b) (h1:B1≠b) (h2:B2≠b) (W:World)
 (hW:Pco w0 b (fun V=>V.cell? ⟨B1,0,none⟩=some (.map (some b))/\Box V B2 27 (cMdl M PM)) [] W) :
 Calls Tryz.prog 75 #[.slice PM.lip PM.lim PM.lic,.int .i64 ((32:Nat):Int),.func (.func 76) #[] #[.pointer (some ⟨B2,0,none⟩),.pointer (some ⟨B1,0,none⟩)]] W (fun e W2=>e=.returned (.int .i64 (lnksE M))/\Below w0.heap.size w0 W2):=by
 have hSt:Stb b (fun V=>V.cell? ⟨B1,0,none⟩=some (.map (some b))/\Box V B2 27 (cMdl M PM)):=fun V V2 h hbt=>⟨cell_but hbt h.1 h1,h.2.but hbt h2⟩
 refine(each_Lnk (hid hx.li) #[] #[.pointer (some ⟨B2,0,none⟩),.pointer (some ⟨B1,0,none⟩)] _ (hid (Pco.fine hb hSt)) (stepK M.si) 32 (by omega) [] (hid fun k s l c V hxk hm hg hR hI=>?_) W (hid hW)).mono fun e W2 h=>?_
 · rw[arg1b,show c=cLnk l from hR];have hl:=goK_len (si:=M.si) (l:=M.li.take k) (s:=[]);rw[hg,List.length_take] at hl;have hle:s.length<=0+min k M.li.length:=hl;have hz2:=hz l (List.mem_of_getElem? hxk);refine(clo_Lnk l M PM b B1 B2 s V hI.scp (by omega) hz2.1 hz2.2 hI.k.1 hI.k.2 ?_).mono fun e W2 h=>?_
   · exact hx.si.map RSte.map hI.below.size fun bb g _=>⟨Nat.lt_of_lt_of_le g hI.below.size,hI.below.block bb g⟩
   · exact⟨h.1,⟨But.below hI.below h.2.2 hb hI.below.size,h.2.1,hSt _ _ hI.k h.2.2⟩⟩
 · exact⟨h.1,h.2.below⟩
set_option maxRecDepth 100000 in
theorem checkLinks_any (M:Mdl) (PM:PMdl) (w:World) (hx:OMdl (Lo w.heap.size) w M PM) (hz:∀l∈M.li,l.fr.size<=1000000000/\l.tt.size<=1000000000):Calls Tryz.prog 39 #[.agg (cMdl M PM)] w (Gives (.int .i64 (lnksE M)) w):=by
 have FX:=far (w:=w) 27 (cMdl M PM);have hmm:=@run_makeMap Tryz.prog;obtain⟨v,hv⟩:∃v,lnksE M=v:=⟨_,rfl⟩
 have CE:=hid (fun W (h1:Below w.heap.size w W) (h2:Pcp (w.heap.size+1) [] W) (h3:W.cell? ⟨w.heap.size+1+1,0,none⟩=some (.map (some (w.heap.size+1)))) (h4:Box W w.heap.size 27 (cMdl M PM))=>(show Calls Tryz.prog 75 #[.slice PM.lip PM.lim PM.lic,.int .i64 32,.func (.func 76) #[] #[.pointer (some ⟨w.heap.size,0,none⟩),.pointer (some ⟨w.heap.size+1+1,0,none⟩)]] W (Gives' w (.int .i64 v)) by
  rw[← hv];exact links_each M PM w hx hz (w.heap.size+1) (w.heap.size+1+1) w.heap.size (by omega) (by omega) (by omega) W ⟨h1,h2,h3,h4⟩))
 rw[hv];clear hx hv hz;go_enter Tryz.func39,Tryz.ntmps39;go_wp2_with fail;refine(CE.out _ bl ((pcp_made (w:=w.alloc (.cells (cMdl M PM) 27)) (n:=w.heap.size+1) (by simp)).on bl) (by go_simp) (FX.out _ bl)).mono ?_;rintro e v1 ⟨rfl,hb1⟩;go_wp2_with fail;go_ret;exact⟨rfl,hb1⟩
theorem OSta.below {B:Nat} {w w2:World} (hb:Below B w w2) {x:Sta} {P:PSta} (h:OSta (Lo B) w x P):OSta (Lo B) w2 x P:=h.map hb.size fun b g _=>⟨g,hb.block b g⟩
theorem OSta.up {B:Nat} {w:World} (hs:B<=w.heap.size) {x:Sta} {P:PSta} (h:OSta (Lo B) w x P):OSta (Lo w.heap.size) w x P:=h.map (Nat.le_refl _) fun b g _=>⟨Nat.lt_of_lt_of_le g hs,rfl⟩
set_option maxRecDepth 100000 in
theorem cloS_any (x:Ste) (P:PSte) (d:Sta) (Q:PSta) (B:Nat) (w:World) (hx:Rw 4 RRou (Lo w.heap.size) w x.ro P.rop P.rom) (hd:OSta (Lo w.heap.size) w d Q) (hB:Box w B 53 (cSte x P)):Calls Tryz.prog 123 #[.agg (cSta d Q),.pointer (some ⟨B,0,none⟩)] w (Gives (.int .i64 (staE x.ro d)) w):=by
 have HX:=hid hx;have HD:=hid hd;obtain⟨n13,hn13⟩:∃n:Nat,13=n:=⟨_,rfl⟩
 have hsz13:∀w,(sizeOf 53).run Tryz.prog w=.ok n13 w:=fun w=>by rw[Tryz.sizeOf53,hn13]
 have HN13:=hid hn13;obtain⟨n5,hn5⟩:∃n:Nat,5=n:=⟨_,rfl⟩
 have hsz5:∀w,(sizeOf 122).run Tryz.prog w=.ok n5 w:=fun w=>by rw[Tryz.sizeOf122,hn5]
 have ld:=(hB.on (show Below w.heap.size w (w.alloc (.cells (cSta d Q) 122)) by exact bl)).cell.ldN HN13.out;have ld5:=fun W=>run_loadCellsFrom_new (P:=Tryz.prog) W 122 (cSta d Q) n5 (by rw[cSta_size];exact hn5);obtain⟨V,hV⟩:∃v,staE x.ro d=v:=⟨_,rfl⟩
 have CT:=hid (fun W (hW:Below w.heap.size w W)=>(show Calls Tryz.prog 124 #[.agg (cSte x P),.agg (cSta d Q)] W (Gives (.int .i64 V) W) by rw[← hV];exact checkStart_any x P d Q W (HX.out.on RRou.map hW) (HD.out.on hW)));rw[hV];clear hx hd hB hn13 hn5 hV;go_enter Tryz.func123,Tryz.ntmps123;go_wp2_with fail;refine(CT.out _ bl).mono ?_;rintro e v1 ⟨rfl,hb1⟩;go_wp2_with fail;go_ret;exact⟨rfl,bl⟩
theorem starts_any (x:Ste) (P:PSte) (w0:World) (hx:OSte (Lo w0.heap.size) w0 x P) (B:Nat) (W:World) (hW:Below w0.heap.size w0 W) (hB:Box W B 53 (cSte x P)) :
 Calls Tryz.prog 122 #[.slice P.ssp P.ssm P.ssc,.int .i64 ((32:Nat):Int),.func (.func 123) #[] #[.pointer (some ⟨B,0,none⟩)]] W (fun e W2=>e=.returned (.int .i64 (lstE (staE x.ro) 32 x.ss))/\Below W.heap.size W W2):=by
 have F:Fine w0 (fun(_:Unit) V=>Below W.heap.size W V):=⟨fun _ V h=>hW.trans (h.mono hW.size),fun _ V V2 h h2=>h.trans (h2.mono h.size)⟩
 refine(each_Sta (hid hx.ss) #[] #[.pointer (some ⟨B,0,none⟩)] (fun(_:Unit) V=>Below W.heap.size W V) (hid F) (fun _ d=>(staE x.ro d,())) 32 (by omega) () (hid fun k s d c V hx2 hm hg hR hI=>?_) W (hid (Below.refl _ _))).mono fun e W2 h=>?_
 · rw[arg1];obtain⟨Q,rfl,hQ⟩:=hR;have h0:Below w0.heap.size w0 V:=hW.trans (hI.mono hW.size);exact(cloS_any x P d Q B V (hx.ro.map RRou.map h0.size fun b g _=>⟨Nat.lt_of_lt_of_le g h0.size,h0.block b g⟩) (hQ.up h0.size) (hB.on hI)).mono fun e W2 h=>⟨h.1,hI.trans (h.2.mono hI.size)⟩
 · obtain⟨h1,h2⟩:=h;rw[eachE_pure] at h1;exact⟨h1,h2⟩
end Go.Proofs.YtbgodajefaahdaaGreatDoor.Md
namespace Go.Proofs.YtbgodajefaahdaaGreatDoor.Md
open Go.RowKit Go.Maps
open Go.Proofs.YtbgodajefaahdaaGreatDoor.Na (Strs)
open Go.Proofs.YtbgodajefaahdaaGreatDoor.Sm (orE or_any)
open Go.Proofs.YtbgodajefaahdaaGreatDoor.Ex (Lo Gives)
attribute [local go_sem] cRes1 cRes2 cRes3
set_option maxHeartbeats 4000000
set_option maxRecDepth 100000 in
theorem checkResource_any (x:Res) (P:PRes) (sm:List ByteArray) (p:Option Addr) (m c:Nat) (w:World) (hx:ORes (Lo w.heap.size) w x P) (hs:Strs w p m sm):Calls Tryz.prog 111 #[.agg (cRes x P),.slice p m c] w (Gives (.int .i64 (resT sm x)) w):=by
 have HX:=hid hx;have HS:=hid hs;have FX:=far (w:=w) 111 (cRes x P);obtain⟨u,hu⟩:∃b,isU x.un=b:=⟨_,rfl⟩
 have CI:=hid (fun W=>(show Calls Tryz.prog 158 #[.int .i64 x.un] W (Stay (.bool u) W) by rw[← hu];exact isUnits_any _ W))
 cases u with
 | false=>
  rw[show resT sm x=2 by unfold resT;rw[hu];rfl];clear hx hs hu;go_enter Tryz.func111,Tryz.ntmps111;go_wp2_with fail;refine(CI.out _).mono ?_;rintro e w2 ⟨rfl,rfl⟩;go_wp2_with fail;go_ret;exact⟨rfl,bl⟩
 | true=>
  obtain⟨v1,hv1⟩:∃v,schE x.sh x.cy=v:=⟨_,rfl⟩
  obtain⟨v2,hv2⟩:∃v,fltE x sm=v:=⟨_,rfl⟩
  rw[show resT sm x=orE v1 v2 by unfold resT;rw[hu,hv1,hv2];rfl];have CS:=hid (fun W (hW:Below w.heap.size w W)=>(show Calls Tryz.prog 159 #[.slice P.shp P.shm P.shc,.int .i64 x.cy] W (Gives (.int .i64 v1) W) by rw[← hv1];exact checkSchedule_any _ _ _ _ _ W (HX.out.sh.on RChg.map hW)));have CF:=hid (fun W (hW:Below w.heap.size w W)=>(show Calls Tryz.prog 160 #[.agg (cFlt x P),.slice p m c] W (Gives (.int .i64 v2) W) by rw[← hv2];exact checkFault_any x P sm p m c W (HX.out.flt.on hW) (HS.out.on hW)));have FK:Hid (∀W,Below (w.alloc (.cells (cRes x P) 111)).heap.size (w.alloc (.cells (cRes x P) 111)) W->W.cell? ⟨w.heap.size,2,none⟩=some (.slice P.shp P.shm P.shc)/\W.cell? ⟨w.heap.size,3,none⟩=some (.int .i64 x.cy)/\W.cell? ⟨w.heap.size,4,none⟩=some (.string x.fs)/\W.cell? ⟨w.heap.size,5,none⟩=some (.int .i64 x.up.op)/\W.cell? ⟨w.heap.size,6,none⟩=some (.int .i64 x.up.a)/\W.cell? ⟨w.heap.size,7,none⟩=some (.int .i64 x.up.b)/\W.cell? ⟨w.heap.size,8,none⟩=some (.int .i64 x.up.n)/\W.cell? ⟨w.heap.size,9,none⟩=some (.slice P.upvp P.upvm P.upvc)/\W.cell? ⟨w.heap.size,10,none⟩=some (.slice P.upwp P.upwm P.upwc)/\W.cell? ⟨w.heap.size,11,none⟩=some (.int .i64 x.dn.op)/\W.cell? ⟨w.heap.size,12,none⟩=some (.int .i64 x.dn.a)/\W.cell? ⟨w.heap.size,13,none⟩=some (.int .i64 x.dn.b)/\W.cell? ⟨w.heap.size,14,none⟩=some (.int .i64 x.dn.n)/\W.cell? ⟨w.heap.size,15,none⟩=some (.slice P.dnvp P.dnvm P.dnvc)/\W.cell? ⟨w.heap.size,16,none⟩=some (.slice P.dnwp P.dnwm P.dnwc)):=hid fun W hb=>by
   have q:=FX.out W hb;exact⟨q.get (cRes2 x P),q.get (cRes3 x P),q.get (cRes4 x P),q.get (cRes5 x P),q.get (cRes6 x P),q.get (cRes7 x P),q.get (cRes8 x P),q.get (cRes9 x P),q.get (cRes10 x P),q.get (cRes11 x P),q.get (cRes12 x P),q.get (cRes13 x P),q.get (cRes14 x P),q.get (cRes15 x P),q.get (cRes16 x P)⟩
  clear hx hs hu hv1 hv2;go_enter Tryz.func111,Tryz.ntmps111;go_wp2_with fail;refine(CI.out _).mono ?_;rintro e w2 ⟨rfl,rfl⟩;go_wp2_with fail;go_region_held3 (fun W=>W.cell? ⟨w.heap.size,2,none⟩=some (.slice P.shp P.shm P.shc)/\W.cell? ⟨w.heap.size,3,none⟩=some (.int .i64 x.cy)/\W.cell? ⟨w.heap.size,4,none⟩=some (.string x.fs)/\W.cell? ⟨w.heap.size,5,none⟩=some (.int .i64 x.up.op)/\W.cell? ⟨w.heap.size,6,none⟩=some (.int .i64 x.up.a)/\W.cell? ⟨w.heap.size,7,none⟩=some (.int .i64 x.up.b)/\W.cell? ⟨w.heap.size,8,none⟩=some (.int .i64 x.up.n)/\W.cell? ⟨w.heap.size,9,none⟩=some (.slice P.upvp P.upvm P.upvc)/\W.cell? ⟨w.heap.size,10,none⟩=some (.slice P.upwp P.upwm P.upwc)/\W.cell? ⟨w.heap.size,11,none⟩=some (.int .i64 x.dn.op)/\W.cell? ⟨w.heap.size,12,none⟩=some (.int .i64 x.dn.a)/\W.cell? ⟨w.heap.size,13,none⟩=some (.int .i64 x.dn.b)/\W.cell? ⟨w.heap.size,14,none⟩=some (.int .i64 x.dn.n)/\W.cell? ⟨w.heap.size,15,none⟩=some (.slice P.dnvp P.dnvm P.dnvc)/\W.cell? ⟨w.heap.size,16,none⟩=some (.slice P.dnwp P.dnwm P.dnwc)) (first|(refine FK.out _ ?_;exact bl;done)|(go_keep;done)) (first
   | (have t:=hb3;go_at_call 34;refine(or_any [v1,v2] _ 2 2 _ rfl (by omega) (hid (cells2 _ _ _ _))).mono ?_;rintro e w9 ⟨rfl,rfl⟩)
   | (have t:=hb2;go_at_call 160;refine(CF.out _ bl).mono ?_;rintro e w3 ⟨rfl,hb3⟩)
   | (go_at_call 159;refine(CS.out _ bl).mono ?_;rintro e w2 ⟨rfl,hb2⟩))
  all_goals
   have HB3:=hid hb3;go_wp2_with fail;go_ret;exact⟨by rw[← orL2];rfl,bl⟩
end Go.Proofs.YtbgodajefaahdaaGreatDoor.Md
namespace Go.Proofs.YtbgodajefaahdaaGreatDoor.Md
open Go.RowKit Go.Maps
open Go.Proofs.YtbgodajefaahdaaGreatDoor.Sm (orE_right orE_assoc orL)
open Go.Proofs.YtbgodajefaahdaaGreatDoor.Ex (Lo)
set_option maxHeartbeats 8000000
structure ZSte (x:Ste):Prop where
 va:∀y∈x.va,y.nm.size<=9223372036854775807
 rs:∀y∈x.rs,y.nm.size<=9223372036854775807
 st:∀y∈x.st,y.nm.size<=9223372036854775807
 be:∀y∈x.be,y.nm.size<=9223372036854775807
 qu:∀y∈x.qu,y.size<=9223372036854775807
 sm:∀y∈x.sm,y.size<=9223372036854775807
 ta:∀y∈x.ta,y.size<=9223372036854775807
 le:∀y∈x.le,y.size<=9223372036854775807
 co:∀y∈x.co,y.size<=9223372036854775807
 ro:∀y∈x.ro,ZRou y
 la:∀y∈x.la,y.nm.size<=9223372036854775807
 nm:x.nm.size<=9223372036854775807
def KS (b B1 B2:Nat) (c:Array Value) (V:World):Prop:=V.cell? ⟨B1,0,none⟩=some (.map (some b))/\Box V B2 53 c
theorem KS.stb {b B1 B2:Nat} {c:Array Value} (h1:B1≠b) (h2:B2≠b):Stb b (KS b B1 B2 c):=fun V V2 h hbt=>⟨cell_but hbt h.1 h1,h.2.but hbt h2⟩
theorem Sco.at {w0:World} {b:Nat} {K:World->Prop} (hb:w0.heap.size<=b) (hK:Stb b K) {acc:List ByteArray} {W W2:World} (h:Sco w0 b K acc W) (hW:Below W.heap.size W W2):Sco w0 b K acc W2:=(Sco.fine hb hK).on acc W W2 h hW
theorem ORes.below {B:Nat} {w w2:World} (hb:Below B w w2) {x:Res} {P:PRes} (h:ORes (Lo B) w x P):ORes (Lo B) w2 x P:=h.map hb.size fun b g _=>⟨g,hb.block b g⟩
theorem ORes.up {B:Nat} {w:World} (hs:B<=w.heap.size) {x:Res} {P:PRes} (h:ORes (Lo B) w x P):ORes (Lo w.heap.size) w x P:=h.map (Nat.le_refl _) fun b g _=>⟨Nat.lt_of_lt_of_le g hs,rfl⟩
theorem ORou.below {B:Nat} {w w2:World} (hb:Below B w w2) {x:Rou} {P:PRou} (h:ORou (Lo B) w x P):ORou (Lo B) w2 x P:=h.map hb.size fun b g _=>⟨g,hb.block b g⟩
theorem ORou.up {B:Nat} {w:World} (hs:B<=w.heap.size) {x:Rou} {P:PRou} (h:ORou (Lo B) w x P):ORou (Lo w.heap.size) w x P:=h.map (Nat.le_refl _) fun b g _=>⟨Nat.lt_of_lt_of_le g hs,rfl⟩
theorem zFL_0 {p:Prop} (h:p:=by omega):p:=h
theorem but_below {w0 V V2:World} {b:Nat} (hV:Below w0.heap.size w0 V) (hbt:But b V V2) (hb:w0.heap.size<=b):Below w0.heap.size V V2:=⟨hbt.os,hbt.tape,hbt.output,hbt.size,fun k hk=>hbt.block k (Nat.lt_of_lt_of_le hk hV.size) zFL_0⟩
section
variable {w0:World} {b B1 B2:Nat} {x:Ste} {P:PSte} (hx:OSte (Lo w0.heap.size) w0 x P) (hz:ZSte x) (hb:w0.heap.size<=b) (h1:B1≠b) (h2:B2≠b)
include hx hz hb h1 h2
theorem each_rs {s0:List ByteArray} (h0:s0.length<=50000) (W:World) (hW:Sco w0 b (KS b B1 B2 (cSte x P)) s0 W) :
 Calls Tryz.prog 109 #[.slice P.rsp P.rsm P.rsc,.int .i64 ((32:Nat):Int),.func (.func 110) #[] #[.pointer (some ⟨B1,0,none⟩),.pointer (some ⟨B2,0,none⟩)]] W (Does (Sco w0 b (KS b B1 B2 (cSte x P))) (eachE stepN 32 (x.rs.map (resP x.sm)) s0)):=by
 have hSt:=KS.stb (c:=cSte x P) h1 h2;rw[eachE_map];refine each_Res (hid hx.rs) #[] #[.pointer (some ⟨B1,0,none⟩),.pointer (some ⟨B2,0,none⟩)] _ (hid (Sco.fine hb hSt)) (fun a l=>stepN a (resP x.sm l)) 32 zFL_0 s0 (hid fun k s l c V hxk hm hg hR hI=>?_) W (hid hW);rw[arg1b];obtain⟨Q,rfl,hQ⟩:=hR;have hsh:=go_short hm hg;refine(clo_Res l Q b B1 s V hI.scp zFL_0 (hz.rs l (List.mem_of_getElem? hxk)) hI.k.1 h1 B2 P.smp P.smm P.smc (hI.k.2.get (cSte6 x P)) h2 (resT x.sm l) (hid fun V2 hbt=>?_)).mono fun e W2 h=>hI.step hb hSt h;have hb2:Below w0.heap.size w0 V2:=But.below hI.below hbt hb hI.below.size;exact checkResource_any l Q x.sm P.smp P.smm P.smc V2 ((hQ.below (but_below hI.below hbt hb)).up hb2.size) (Rw.strs (hx.sm.below RTxt.map hb2))
theorem each_st {s0:List ByteArray} (h0:s0.length<=50000) (W:World) (hW:Sco w0 b (KS b B1 B2 (cSte x P)) s0 W) :
 Calls Tryz.prog 112 #[.slice P.stp P.stm P.stc,.int .i64 ((32:Nat):Int),.func (.func 113) #[] #[.pointer (some ⟨B1,0,none⟩)]] W (Does (Sco w0 b (KS b B1 B2 (cSte x P))) (eachE stepN 32 (x.st.map stoP) s0)):=by
 have hSt:=KS.stb (c:=cSte x P) h1 h2;rw[eachE_map];refine each_Sto (hid hx.st) #[] #[.pointer (some ⟨B1,0,none⟩)] _ (hid (Sco.fine hb hSt)) (fun a l=>stepN a (stoP l)) 32 zFL_0 s0 (hid fun k s l c V hxk hm hg hR hI=>?_) W (hid hW);rw[arg1,show c=cSto l from hR];have hsh:=go_short hm hg;exact(clo_Sto l b B1 s V hI.scp zFL_0 (hz.st l (List.mem_of_getElem? hxk)) hI.k.1 h1 (stoT l) (hid fun V2 hbt=>checkStore_any l V2)).mono fun e W2 h=>hI.step hb hSt h
theorem each_be {s0:List ByteArray} (h0:s0.length<=50000) (W:World) (hW:Sco w0 b (KS b B1 B2 (cSte x P)) s0 W) :
 Calls Tryz.prog 115 #[.slice P.bep P.bem P.bec,.int .i64 ((32:Nat):Int),.func (.func 116) #[] #[.pointer (some ⟨B1,0,none⟩)]] W (Does (Sco w0 b (KS b B1 B2 (cSte x P))) (eachE stepN 32 (x.be.map bltP) s0)):=by
 have hSt:=KS.stb (c:=cSte x P) h1 h2;rw[eachE_map];refine each_Blt (hid hx.be) #[] #[.pointer (some ⟨B1,0,none⟩)] _ (hid (Sco.fine hb hSt)) (fun a l=>stepN a (bltP l)) 32 zFL_0 s0 (hid fun k s l c V hxk hm hg hR hI=>?_) W (hid hW);rw[arg1,show c=cBlt l from hR];have hsh:=go_short hm hg;exact(clo_Blt l b B1 s V hI.scp zFL_0 (hz.be l (List.mem_of_getElem? hxk)) hI.k.1 h1 (bltT l) (hid fun V2 hbt=>checkBelt_any l V2)).mono fun e W2 h=>hI.step hb hSt h
theorem each_ro {s0:List ByteArray} (h0:s0.length<=50000) (W:World) (hW:Sco w0 b (KS b B1 B2 (cSte x P)) s0 W) :
 Calls Tryz.prog 119 #[.slice P.rop P.rom P.roc,.int .i64 ((16:Nat):Int),.func (.func 120) #[] #[.pointer (some ⟨B1,0,none⟩)]] W (Does (Sco w0 b (KS b B1 B2 (cSte x P))) (eachE stepN 16 (x.ro.map rouP) s0)):=by
 have hSt:=KS.stb (c:=cSte x P) h1 h2;rw[eachE_map];refine each_Rou (hid hx.ro) #[] #[.pointer (some ⟨B1,0,none⟩)] _ (hid (Sco.fine hb hSt)) (fun a l=>stepN a (rouP l)) 16 zFL_0 s0 (hid fun k s l c V hxk hm hg hR hI=>?_) W (hid hW);rw[arg1];obtain⟨Q,rfl,hQ⟩:=hR;have hsh:=go_short hm hg;have hzr:=hz.ro l (List.mem_of_getElem? hxk);refine(clo_Rou l Q b B1 s V hI.scp zFL_0 hzr.nm hI.k.1 h1 (rouT l) (hid fun V2 hbt=>?_)).mono fun e W2 h=>hI.step hb hSt h;have hb2:Below w0.heap.size w0 V2:=But.below hI.below hbt hb hI.below.size;exact checkRoutine_any l Q V2 ((hQ.below (but_below hI.below hbt hb)).up hb2.size) hzr
end
theorem cells12 (w:World) (t:TypeId) (r0 r1 r2 r3 r4 r5 r6 r7 r8 r9 r10 r11:Int):∀i,(h:i<[r0,r1,r2,r3,r4,r5,r6,r7,r8,r9,r10,r11].length)->(w.alloc (.cells #[.int .i64 r0,.int .i64 r1,.int .i64 r2,.int .i64 r3,.int .i64 r4,.int .i64 r5,.int .i64 r6,.int .i64 r7,.int .i64 r8,.int .i64 r9,.int .i64 r10,.int .i64 r11] t)).cell? ⟨w.heap.size,i,none⟩=some (.int .i64 [r0,r1,r2,r3,r4,r5,r6,r7,r8,r9,r10,r11][i]):=by
 intro i h;rw[World.cell?_alloc_mark]
 match i,h with
 | 0,_=>rfl
 | 1,_=>rfl
 | 2,_=>rfl
 | 3,_=>rfl
 | 4,_=>rfl
 | 5,_=>rfl
 | 6,_=>rfl
 | 7,_=>rfl
 | 8,_=>rfl
 | 9,_=>rfl
 | 10,_=>rfl
 | 11,_=>rfl
structure SiS (w:World) (P:PSte) (x:Ste) (n13:Nat) (W:World):Prop where
 f1:W.cell? ⟨w.heap.size,1,none⟩=some (.slice P.vap P.vam P.vac)
 f2:W.cell? ⟨w.heap.size,2,none⟩=some (.slice P.rsp P.rsm P.rsc)
 f3:W.cell? ⟨w.heap.size,3,none⟩=some (.slice P.stp P.stm P.stc)
 f4:W.cell? ⟨w.heap.size,4,none⟩=some (.slice P.bep P.bem P.bec)
 f5:W.cell? ⟨w.heap.size,5,none⟩=some (.slice P.qup P.qum P.quc)
 f6:W.cell? ⟨w.heap.size,6,none⟩=some (.slice P.smp P.smm P.smc)
 f7:W.cell? ⟨w.heap.size,7,none⟩=some (.slice P.tap P.tam P.tac)
 f8:W.cell? ⟨w.heap.size,8,none⟩=some (.slice P.lep P.lem P.lec)
 f9:W.cell? ⟨w.heap.size,9,none⟩=some (.slice P.cop P.com P.coc)
 f10:W.cell? ⟨w.heap.size,10,none⟩=some (.slice P.rop P.rom P.roc)
 f11:W.cell? ⟨w.heap.size,11,none⟩=some (.slice P.ssp P.ssm P.ssc)
 f12:W.cell? ⟨w.heap.size+1+1,0,none⟩=some (.map (some (w.heap.size+1)))
 f13:(loadCellsFrom ⟨w.heap.size,0,none⟩ 0 n13 #[]).run Tryz.prog W=.ok (cSte x P) W
def ScI (w:World) (x:Ste) (P:PSte) (acc:List ByteArray) (W:World):Prop:=Sco w (w.heap.size+1) (KS (w.heap.size+1) (w.heap.size+1+1) w.heap.size (cSte x P)) acc W
theorem ScI.at {w:World} {x:Ste} {P:PSte} {acc:List ByteArray} {V W:World} (h:ScI w x P acc V) (hW:Below V.heap.size V W):ScI w x P acc W:=Sco.at zFL_0 (KS.stb zFL_0 zFL_0) h hW
structure SitC (w:World) (x:Ste) (P:PSte) (n13:Nat) (e1 e2 e3 e4 e5 e6 e7 e8 e9 e10 e11 e12:Int) (a1 a2 a3 a4 a5 a6 a7 a8 a9 a10:List ByteArray):Prop where
 c1:∀W,ScI w x P [] W->Calls Tryz.prog 36 #[.slice P.vap P.vam P.vac,.int .i64 32,.func (.func 37) #[.map (some (w.heap.size+1))] #[]] W (fun e W2=>e=.returned (.int .i64 e1)/\ScI w x P a1 W2)
 c2:∀W,ScI w x P a1 W->Calls Tryz.prog 109 #[.slice P.rsp P.rsm P.rsc,.int .i64 32,.func (.func 110) #[] #[.pointer (some ⟨w.heap.size+1+1,0,none⟩),.pointer (some ⟨w.heap.size,0,none⟩)]] W (fun e W2=>e=.returned (.int .i64 e2)/\ScI w x P a2 W2)
 c3:∀W,ScI w x P a2 W->Calls Tryz.prog 112 #[.slice P.stp P.stm P.stc,.int .i64 32,.func (.func 113) #[] #[.pointer (some ⟨w.heap.size+1+1,0,none⟩)]] W (fun e W2=>e=.returned (.int .i64 e3)/\ScI w x P a3 W2)
 c4:∀W,ScI w x P a3 W->Calls Tryz.prog 115 #[.slice P.bep P.bem P.bec,.int .i64 32,.func (.func 116) #[] #[.pointer (some ⟨w.heap.size+1+1,0,none⟩)]] W (fun e W2=>e=.returned (.int .i64 e4)/\ScI w x P a4 W2)
 c5:∀W,ScI w x P a4 W->Calls Tryz.prog 118 #[.slice P.qup P.qum P.quc,.int .i64 32,.func (.func 69) #[.map (some (w.heap.size+1))] #[]] W (fun e W2=>e=.returned (.int .i64 e5)/\ScI w x P a5 W2)
 c6:∀W,ScI w x P a5 W->Calls Tryz.prog 118 #[.slice P.smp P.smm P.smc,.int .i64 32,.func (.func 69) #[.map (some (w.heap.size+1))] #[]] W (fun e W2=>e=.returned (.int .i64 e6)/\ScI w x P a6 W2)
 c7:∀W,ScI w x P a6 W->Calls Tryz.prog 118 #[.slice P.tap P.tam P.tac,.int .i64 32,.func (.func 69) #[.map (some (w.heap.size+1))] #[]] W (fun e W2=>e=.returned (.int .i64 e7)/\ScI w x P a7 W2)
 c8:∀W,ScI w x P a7 W->Calls Tryz.prog 118 #[.slice P.lep P.lem P.lec,.int .i64 32,.func (.func 69) #[.map (some (w.heap.size+1))] #[]] W (fun e W2=>e=.returned (.int .i64 e8)/\ScI w x P a8 W2)
 c9:∀W,ScI w x P a8 W->Calls Tryz.prog 118 #[.slice P.cop P.com P.coc,.int .i64 32,.func (.func 69) #[.map (some (w.heap.size+1))] #[]] W (fun e W2=>e=.returned (.int .i64 e9)/\ScI w x P a9 W2)
 c10:∀W,ScI w x P a9 W->Calls Tryz.prog 119 #[.slice P.rop P.rom P.roc,.int .i64 16,.func (.func 120) #[] #[.pointer (some ⟨w.heap.size+1+1,0,none⟩)]] W (fun e W2=>e=.returned (.int .i64 e10)/\ScI w x P a10 W2)
 c11:∀W,ScI w x P a10 W->Calls Tryz.prog 122 #[.slice P.ssp P.ssm P.ssc,.int .i64 32,.func (.func 123) #[] #[.pointer (some ⟨w.heap.size,0,none⟩)]] W (fun e W2=>e=.returned (.int .i64 e11)/\ScI w x P a10 W2)
 c12:∀W,ScI w x P a10 W->Calls Tryz.prog 125 #[.agg (cSte x P)] W (fun e W2=>e=.returned (.int .i64 e12)/\ScI w x P a10 W2)
 fs:∀(acc:List ByteArray) (V W:World),ScI w x P acc V->Below V.heap.size V W->SiS w P x n13 W
 hi:ScI w x P [] (((w.alloc (.cells (cSte x P) 53)).alloc (.map #[] 0)).alloc (.cells #[.map (some (w.heap.size+1))] 96))
theorem sitC_any (hK:KindC) (x:Ste) (P:PSte) (w:World) (hx:OSte (Lo w.heap.size) w x P) (hz:ZSte x) (n13:Nat) (hn13:13=n13):∃(e1 e2 e3 e4 e5 e6 e7 e8 e9 e10 e11 e12:Int) (a1 a2 a3 a4 a5 a6 a7 a8 a9 a10:List ByteArray),SitC w x P n13 e1 e2 e3 e4 e5 e6 e7 e8 e9 e10 e11 e12 a1 a2 a3 a4 a5 a6 a7 a8 a9 a10/\siteT x=orL [e1,e2,e3,e4,e5,e6,e7,e8,e9,e10,e11,e12]:=by
 have FX:=far (w:=w) 53 (cSte x P);have hb:w.heap.size<=w.heap.size+1:=by omega
 have hSt:=KS.stb (c:=cSte x P) (show w.heap.size+1+1≠w.heap.size+1 by omega) (show w.heap.size≠w.heap.size+1 by omega);obtain⟨⟨e1,a1⟩,h1⟩:∃r,eachE stepN 32 (x.va.map valP) []=r:=⟨_,rfl⟩
 obtain⟨⟨e2,a2⟩,h2⟩:∃r,eachE stepN 32 (x.rs.map (resP x.sm)) a1=r:=⟨_,rfl⟩
 obtain⟨⟨e3,a3⟩,h3⟩:∃r,eachE stepN 32 (x.st.map stoP) a2=r:=⟨_,rfl⟩
 obtain⟨⟨e4,a4⟩,h4⟩:∃r,eachE stepN 32 (x.be.map bltP) a3=r:=⟨_,rfl⟩
 obtain⟨⟨e5,a5⟩,h5⟩:∃r,eachE stepN 32 (x.qu.map txtP) a4=r:=⟨_,rfl⟩
 obtain⟨⟨e6,a6⟩,h6⟩:∃r,eachE stepN 32 (x.sm.map txtP) a5=r:=⟨_,rfl⟩
 obtain⟨⟨e7,a7⟩,h7⟩:∃r,eachE stepN 32 (x.ta.map txtP) a6=r:=⟨_,rfl⟩
 obtain⟨⟨e8,a8⟩,h8⟩:∃r,eachE stepN 32 (x.le.map txtP) a7=r:=⟨_,rfl⟩
 obtain⟨⟨e9,a9⟩,h9⟩:∃r,eachE stepN 32 (x.co.map txtP) a8=r:=⟨_,rfl⟩
 obtain⟨⟨e10,a10⟩,h10⟩:∃r,eachE stepN 16 (x.ro.map rouP) a9=r:=⟨_,rfl⟩
 obtain⟨e11,h11⟩:∃r,lstE (staE x.ro) 32 x.ss=r:=⟨_,rfl⟩
 obtain⟨e12,h12⟩:∃r,lawsE x=r:=⟨_,rfl⟩
 have HT:siteT x=orL [e1,e2,e3,e4,e5,e6,e7,e8,e9,e10,e11,e12]:=by
  unfold siteT kinds;simp only[thr,h1,h2,h3,h4,h5,h6,h7,h8,h9,h10,h11,h12,frE,idE,orL,orE_right,orE_assoc]
 have l0:([]:List ByteArray).length<=0:=Nat.le_refl _;have l1:a1.length<=32:=by
  have q:=eachN_len (g:=fun y=>valP y) (most:=32) (l:=x.va) (s:=[]);rw[← eachE_map (f:=stepN),h1] at q;have q2:a1.length<=([]:List ByteArray).length+32:=q;omega
 have l2:a2.length<=64:=by
  have q:=eachN_len (g:=fun y=>(resP x.sm) y) (most:=32) (l:=x.rs) (s:=a1);rw[← eachE_map (f:=stepN),h2] at q;have q2:a2.length<=(a1:List ByteArray).length+32:=q;omega
 have l3:a3.length<=96:=by
  have q:=eachN_len (g:=fun y=>stoP y) (most:=32) (l:=x.st) (s:=a2);rw[← eachE_map (f:=stepN),h3] at q;have q2:a3.length<=(a2:List ByteArray).length+32:=q;omega
 have l4:a4.length<=128:=by
  have q:=eachN_len (g:=fun y=>bltP y) (most:=32) (l:=x.be) (s:=a3);rw[← eachE_map (f:=stepN),h4] at q;have q2:a4.length<=(a3:List ByteArray).length+32:=q;omega
 have l5:a5.length<=160:=by
  have q:=eachN_len (g:=fun y=>txtP y) (most:=32) (l:=x.qu) (s:=a4);rw[← eachE_map (f:=stepN),h5] at q;have q2:a5.length<=(a4:List ByteArray).length+32:=q;omega
 have l6:a6.length<=192:=by
  have q:=eachN_len (g:=fun y=>txtP y) (most:=32) (l:=x.sm) (s:=a5);rw[← eachE_map (f:=stepN),h6] at q;have q2:a6.length<=(a5:List ByteArray).length+32:=q;omega
 have l7:a7.length<=224:=by
  have q:=eachN_len (g:=fun y=>txtP y) (most:=32) (l:=x.ta) (s:=a6);rw[← eachE_map (f:=stepN),h7] at q;have q2:a7.length<=(a6:List ByteArray).length+32:=q;omega
 have l8:a8.length<=256:=by
  have q:=eachN_len (g:=fun y=>txtP y) (most:=32) (l:=x.le) (s:=a7);rw[← eachE_map (f:=stepN),h8] at q;have q2:a8.length<=(a7:List ByteArray).length+32:=q;omega
 have l9:a9.length<=288:=by
  have q:=eachN_len (g:=fun y=>txtP y) (most:=32) (l:=x.co) (s:=a8);rw[← eachE_map (f:=stepN),h9] at q;have q2:a9.length<=(a8:List ByteArray).length+32:=q;omega
 have l10:a10.length<=304:=by
  have q:=eachN_len (g:=fun y=>rouP y) (most:=16) (l:=x.ro) (s:=a9);rw[← eachE_map (f:=stepN),h10] at q;have q2:a10.length<=(a9:List ByteArray).length+16:=q;omega
 have C1:∀W,ScI w x P [] W->Calls Tryz.prog 36 #[.slice P.vap P.vam P.vac,.int .i64 32,.func (.func 37) #[.map (some (w.heap.size+1))] #[]] W (fun e W2=>e=.returned (.int .i64 e1)/\ScI w x P a1 W2):=fun W hW=>by
  have q:=each_vals (c:=P.vac) hb hSt hx.va hz.va 32 zFL_0 [] (by simp) W hW;rw[h1] at q;exact q
 have C2:∀W,ScI w x P a1 W->Calls Tryz.prog 109 #[.slice P.rsp P.rsm P.rsc,.int .i64 32,.func (.func 110) #[] #[.pointer (some ⟨w.heap.size+1+1,0,none⟩),.pointer (some ⟨w.heap.size,0,none⟩)]] W (fun e W2=>e=.returned (.int .i64 e2)/\ScI w x P a2 W2):=fun W hW=>by
  have q:=each_rs hx hz hb (show w.heap.size+1+1≠w.heap.size+1 by omega) (show w.heap.size≠w.heap.size+1 by omega) zFL_0 W hW;rw[h2] at q;exact q
 have C3:∀W,ScI w x P a2 W->Calls Tryz.prog 112 #[.slice P.stp P.stm P.stc,.int .i64 32,.func (.func 113) #[] #[.pointer (some ⟨w.heap.size+1+1,0,none⟩)]] W (fun e W2=>e=.returned (.int .i64 e3)/\ScI w x P a3 W2):=fun W hW=>by
  have q:=each_st hx hz hb (show w.heap.size+1+1≠w.heap.size+1 by omega) (show w.heap.size≠w.heap.size+1 by omega) zFL_0 W hW;rw[h3] at q;exact q
 have C4:∀W,ScI w x P a3 W->Calls Tryz.prog 115 #[.slice P.bep P.bem P.bec,.int .i64 32,.func (.func 116) #[] #[.pointer (some ⟨w.heap.size+1+1,0,none⟩)]] W (fun e W2=>e=.returned (.int .i64 e4)/\ScI w x P a4 W2):=fun W hW=>by
  have q:=each_be hx hz hb (show w.heap.size+1+1≠w.heap.size+1 by omega) (show w.heap.size≠w.heap.size+1 by omega) zFL_0 W hW;rw[h4] at q;exact q
 have C5:∀W,ScI w x P a4 W->Calls Tryz.prog 118 #[.slice P.qup P.qum P.quc,.int .i64 32,.func (.func 69) #[.map (some (w.heap.size+1))] #[]] W (fun e W2=>e=.returned (.int .i64 e5)/\ScI w x P a5 W2):=fun W hW=>by
  have q:=each_txts (c:=P.quc) hb hSt hx.qu hz.qu 32 zFL_0 a4 zFL_0 W hW;rw[h5] at q;exact q
 have C6:∀W,ScI w x P a5 W->Calls Tryz.prog 118 #[.slice P.smp P.smm P.smc,.int .i64 32,.func (.func 69) #[.map (some (w.heap.size+1))] #[]] W (fun e W2=>e=.returned (.int .i64 e6)/\ScI w x P a6 W2):=fun W hW=>by
  have q:=each_txts (c:=P.smc) hb hSt hx.sm hz.sm 32 zFL_0 a5 zFL_0 W hW;rw[h6] at q;exact q
 have C7:∀W,ScI w x P a6 W->Calls Tryz.prog 118 #[.slice P.tap P.tam P.tac,.int .i64 32,.func (.func 69) #[.map (some (w.heap.size+1))] #[]] W (fun e W2=>e=.returned (.int .i64 e7)/\ScI w x P a7 W2):=fun W hW=>by
  have q:=each_txts (c:=P.tac) hb hSt hx.ta hz.ta 32 zFL_0 a6 zFL_0 W hW;rw[h7] at q;exact q
 have C8:∀W,ScI w x P a7 W->Calls Tryz.prog 118 #[.slice P.lep P.lem P.lec,.int .i64 32,.func (.func 69) #[.map (some (w.heap.size+1))] #[]] W (fun e W2=>e=.returned (.int .i64 e8)/\ScI w x P a8 W2):=fun W hW=>by
  have q:=each_txts (c:=P.lec) hb hSt hx.le hz.le 32 zFL_0 a7 zFL_0 W hW;rw[h8] at q;exact q
 have C9:∀W,ScI w x P a8 W->Calls Tryz.prog 118 #[.slice P.cop P.com P.coc,.int .i64 32,.func (.func 69) #[.map (some (w.heap.size+1))] #[]] W (fun e W2=>e=.returned (.int .i64 e9)/\ScI w x P a9 W2):=fun W hW=>by
  have q:=each_txts (c:=P.coc) hb hSt hx.co hz.co 32 zFL_0 a8 zFL_0 W hW;rw[h9] at q;exact q
 have C10:∀W,ScI w x P a9 W->Calls Tryz.prog 119 #[.slice P.rop P.rom P.roc,.int .i64 16,.func (.func 120) #[] #[.pointer (some ⟨w.heap.size+1+1,0,none⟩)]] W (fun e W2=>e=.returned (.int .i64 e10)/\ScI w x P a10 W2):=fun W hW=>by
  have q:=each_ro hx hz hb (show w.heap.size+1+1≠w.heap.size+1 by omega) (show w.heap.size≠w.heap.size+1 by omega) zFL_0 W hW;rw[h10] at q;exact q
 have C11:∀W,ScI w x P a10 W->Calls Tryz.prog 122 #[.slice P.ssp P.ssm P.ssc,.int .i64 32,.func (.func 123) #[] #[.pointer (some ⟨w.heap.size,0,none⟩)]] W (fun e W2=>e=.returned (.int .i64 e11)/\ScI w x P a10 W2):=fun W hW=>by
  rw[← h11];exact(starts_any x P w hx w.heap.size W hW.below hW.k.2).mono fun e W2 h=>⟨h.1,hW.at h.2⟩
 have C12:∀W,ScI w x P a10 W->Calls Tryz.prog 125 #[.agg (cSte x P)] W (fun e W2=>e=.returned (.int .i64 e12)/\ScI w x P a10 W2):=fun W hW=>by
  rw[← h12];exact(checkLaws_any hK x P W ((hx.below hW.below).up hW.below.size) hz.la).mono fun e W2 h=>⟨h.1,hW.at h.2⟩
 have FS:∀(acc:List ByteArray) (V W:World),ScI w x P acc V->Below V.heap.size V W->SiS w P x n13 W:=fun acc V W h hW=>by
  have g:=h.at hW;have q:=g.k.2;exact⟨q.get (cSte1 x P),q.get (cSte2 x P),q.get (cSte3 x P),q.get (cSte4 x P),q.get (cSte5 x P),q.get (cSte6 x P),q.get (cSte7 x P),q.get (cSte8 x P),q.get (cSte9 x P),q.get (cSte10 x P),q.get (cSte11 x P),g.k.1,q.cell.ldN hn13⟩
 have HI0:ScI w x P [] (((w.alloc (.cells (cSte x P) 53)).alloc (.map #[] 0)).alloc (.cells #[.map (some (w.heap.size+1))] 96)):=⟨bl,(scp_made (w:=w.alloc (.cells (cSte x P) 53)) (n:=w.heap.size+1) (by simp)).on bl,by go_simp,FX.out _ bl⟩
 exact⟨e1,e2,e3,e4,e5,e6,e7,e8,e9,e10,e11,e12,a1,a2,a3,a4,a5,a6,a7,a8,a9,a10,⟨C1,C2,C3,C4,C5,C6,C7,C8,C9,C10,C11,C12,FS,HI0⟩,HT⟩
end Go.Proofs.YtbgodajefaahdaaGreatDoor.Md
namespace Go.Proofs.YtbgodajefaahdaaGreatDoor.Md
open Go.RowKit Go.Maps
open Go.Proofs.YtbgodajefaahdaaGreatDoor.Sm (orL or_any)
open Go.Proofs.YtbgodajefaahdaaGreatDoor.Ex (Lo Gives)
set_option maxHeartbeats 8000000
theorem zFM_1 {p:Prop} (h:p:=by
 clear hHeld HC hI0 hV hmm
 first|(go_simp;done)|(go_simp;with_reducible rfl)
 ):p:=h
theorem zFM_0 {p:Prop} (h:p:=by
 intro W2 hS2;replace hS2:=(show SiS w P x n13 W2 from hS2)
 exact zFM_1
 ):p:=h
theorem zFM_2 {p:Prop} (h:p:=by
 intro W2 hS2;replace hS2:=(show SiS w P x n13 W2 from hS2)
 have q12:=hS2.f12;exact zFM_1
 ):p:=h
set_option maxRecDepth 100000 in
theorem site_walk (x:Ste) (P:PSte) (w:World) (n13:Nat) (hsz13:∀w,(sizeOf 53).run Tryz.prog w=.ok n13 w) (e1 e2 e3 e4 e5 e6 e7 e8 e9 e10 e11 e12:Int) (a1 a2 a3 a4 a5 a6 a7 a8 a9 a10:List ByteArray) (HC:SitC w x P n13 e1 e2 e3 e4 e5 e6 e7 e8 e9 e10 e11 e12 a1 a2 a3 a4 a5 a6 a7 a8 a9 a10):Calls Tryz.prog 74 #[.agg (cSte x P)] w (Gives (.int .i64 (orL [e1,e2,e3,e4,e5,e6,e7,e8,e9,e10,e11,e12])) w):=by
 have hmm:=@run_makeMap Tryz.prog;obtain⟨V,hV⟩:∃V,orL [e1,e2,e3,e4,e5,e6,e7,e8,e9,e10,e11,e12]=V:=⟨_,rfl⟩
 rw[hV];replace hV:=hid hV;go_enter Tryz.func74,Tryz.ntmps74;go_wp2_with fail;have hI0:=HC.hi;refine wp_region_noPanic ?_;refine wp_region_held_drew (S:=(fun(W:World)=>SiS w P x n13 W)) (by kernel_rfl) (show((fun(W:World)=>SiS w P x n13 W)) _ from(HC.fs _ _ _ hI0 bl)) (fun hHeld=>?_);refine htake 0 ((.pointer (some ⟨w.heap.size,1,none⟩):Value)) (hy:=?_) (h:=?_)
 · exact zFM_0
 try simp only[Act.put,sA,sB,sC]
 refine htake 1 ((.slice P.vap P.vam P.vac:Value)) (hy:=?_) (h:=?_)
 · intro W2 hS2;replace hS2:=(show SiS w P x n13 W2 from hS2)
   have q1:=hS2.f1;exact zFM_1
 try simp only[Act.put,sA,sB,sC]
 refine htake 2 ((.map (some (w.heap.size+1)):Value)) (hy:=?_) (h:=?_)
 · exact zFM_2
 try simp only[Act.put,sA,sB,sC]
 refine htake 3 ((.func (.func 37) #[.map (some (w.heap.size+1))] #[]:Value)) (hy:=?_) (h:=?_)
 · exact zFM_0
 try simp only[Act.put,sA,sB,sC]
 refine htake 5 ((.pointer (some ⟨w.heap.size,2,none⟩):Value)) (hy:=?_) (h:=?_)
 · exact zFM_0
 try simp only[Act.put,sA,sB,sC]
 refine htake 6 ((.slice P.rsp P.rsm P.rsc:Value)) (hy:=?_) (h:=?_)
 · intro W2 hS2;replace hS2:=(show SiS w P x n13 W2 from hS2)
   have q2:=hS2.f2;exact zFM_1
 try simp only[Act.put,sA,sB,sC]
 refine htake 7 ((.func (.func 110) #[] #[.pointer (some ⟨w.heap.size+1+1,0,none⟩),.pointer (some ⟨w.heap.size,0,none⟩)]:Value)) (hy:=?_) (h:=?_)
 · exact zFM_0
 try simp only[Act.put,sA,sB,sC]
 refine htake 9 ((.pointer (some ⟨w.heap.size,3,none⟩):Value)) (hy:=?_) (h:=?_)
 · exact zFM_0
 try simp only[Act.put,sA,sB,sC]
 refine htake 10 ((.slice P.stp P.stm P.stc:Value)) (hy:=?_) (h:=?_)
 · intro W2 hS2;replace hS2:=(show SiS w P x n13 W2 from hS2)
   have q3:=hS2.f3;exact zFM_1
 try simp only[Act.put,sA,sB,sC]
 refine htake 11 ((.func (.func 113) #[] #[.pointer (some ⟨w.heap.size+1+1,0,none⟩)]:Value)) (hy:=?_) (h:=?_)
 · exact zFM_0
 try simp only[Act.put,sA,sB,sC]
 refine htake 13 ((.pointer (some ⟨w.heap.size,4,none⟩):Value)) (hy:=?_) (h:=?_)
 · exact zFM_0
 try simp only[Act.put,sA,sB,sC]
 refine htake 14 ((.slice P.bep P.bem P.bec:Value)) (hy:=?_) (h:=?_)
 · intro W2 hS2;replace hS2:=(show SiS w P x n13 W2 from hS2)
   have q4:=hS2.f4;exact zFM_1
 try simp only[Act.put,sA,sB,sC]
 refine htake 15 ((.func (.func 116) #[] #[.pointer (some ⟨w.heap.size+1+1,0,none⟩)]:Value)) (hy:=?_) (h:=?_)
 · exact zFM_0
 try simp only[Act.put,sA,sB,sC]
 refine htake 17 ((.pointer (some ⟨w.heap.size,5,none⟩):Value)) (hy:=?_) (h:=?_)
 · exact zFM_0
 try simp only[Act.put,sA,sB,sC]
 refine htake 18 ((.slice P.qup P.qum P.quc:Value)) (hy:=?_) (h:=?_)
 · intro W2 hS2;replace hS2:=(show SiS w P x n13 W2 from hS2)
   have q5:=hS2.f5;exact zFM_1
 try simp only[Act.put,sA,sB,sC]
 refine htake 19 ((.map (some (w.heap.size+1)):Value)) (hy:=?_) (h:=?_)
 · exact zFM_2
 try simp only[Act.put,sA,sB,sC]
 refine htake 20 ((.func (.func 69) #[.map (some (w.heap.size+1))] #[]:Value)) (hy:=?_) (h:=?_)
 · exact zFM_0
 try simp only[Act.put,sA,sB,sC]
 refine htake 22 ((.pointer (some ⟨w.heap.size,6,none⟩):Value)) (hy:=?_) (h:=?_)
 · exact zFM_0
 try simp only[Act.put,sA,sB,sC]
 refine htake 23 ((.slice P.smp P.smm P.smc:Value)) (hy:=?_) (h:=?_)
 · intro W2 hS2;replace hS2:=(show SiS w P x n13 W2 from hS2)
   have q6:=hS2.f6;exact zFM_1
 try simp only[Act.put,sA,sB,sC]
 refine htake 24 ((.map (some (w.heap.size+1)):Value)) (hy:=?_) (h:=?_)
 · exact zFM_2
 try simp only[Act.put,sA,sB,sC]
 refine htake 25 ((.func (.func 69) #[.map (some (w.heap.size+1))] #[]:Value)) (hy:=?_) (h:=?_)
 · exact zFM_0
 try simp only[Act.put,sA,sB,sC]
 refine htake 27 ((.pointer (some ⟨w.heap.size,7,none⟩):Value)) (hy:=?_) (h:=?_)
 · exact zFM_0
 try simp only[Act.put,sA,sB,sC]
 refine htake 28 ((.slice P.tap P.tam P.tac:Value)) (hy:=?_) (h:=?_)
 · intro W2 hS2;replace hS2:=(show SiS w P x n13 W2 from hS2)
   have q7:=hS2.f7;exact zFM_1
 try simp only[Act.put,sA,sB,sC]
 refine htake 29 ((.map (some (w.heap.size+1)):Value)) (hy:=?_) (h:=?_)
 · exact zFM_2
 try simp only[Act.put,sA,sB,sC]
 refine htake 30 ((.func (.func 69) #[.map (some (w.heap.size+1))] #[]:Value)) (hy:=?_) (h:=?_)
 · exact zFM_0
 try simp only[Act.put,sA,sB,sC]
 refine htake 32 ((.pointer (some ⟨w.heap.size,8,none⟩):Value)) (hy:=?_) (h:=?_)
 · exact zFM_0
 try simp only[Act.put,sA,sB,sC]
 refine htake 33 ((.slice P.lep P.lem P.lec:Value)) (hy:=?_) (h:=?_)
 · intro W2 hS2;replace hS2:=(show SiS w P x n13 W2 from hS2)
   have q8:=hS2.f8;exact zFM_1
 try simp only[Act.put,sA,sB,sC]
 refine htake 34 ((.map (some (w.heap.size+1)):Value)) (hy:=?_) (h:=?_)
 · exact zFM_2
 try simp only[Act.put,sA,sB,sC]
 refine htake 35 ((.func (.func 69) #[.map (some (w.heap.size+1))] #[]:Value)) (hy:=?_) (h:=?_)
 · exact zFM_0
 try simp only[Act.put,sA,sB,sC]
 refine htake 37 ((.pointer (some ⟨w.heap.size,9,none⟩):Value)) (hy:=?_) (h:=?_)
 · exact zFM_0
 try simp only[Act.put,sA,sB,sC]
 refine htake 38 ((.slice P.cop P.com P.coc:Value)) (hy:=?_) (h:=?_)
 · intro W2 hS2;replace hS2:=(show SiS w P x n13 W2 from hS2)
   have q9:=hS2.f9;exact zFM_1
 try simp only[Act.put,sA,sB,sC]
 refine htake 39 ((.map (some (w.heap.size+1)):Value)) (hy:=?_) (h:=?_)
 · exact zFM_2
 try simp only[Act.put,sA,sB,sC]
 refine htake 40 ((.func (.func 69) #[.map (some (w.heap.size+1))] #[]:Value)) (hy:=?_) (h:=?_)
 · exact zFM_0
 try simp only[Act.put,sA,sB,sC]
 refine htake 42 ((.pointer (some ⟨w.heap.size,10,none⟩):Value)) (hy:=?_) (h:=?_)
 · exact zFM_0
 try simp only[Act.put,sA,sB,sC]
 refine htake 43 ((.slice P.rop P.rom P.roc:Value)) (hy:=?_) (h:=?_)
 · intro W2 hS2;replace hS2:=(show SiS w P x n13 W2 from hS2)
   have q10:=hS2.f10;exact zFM_1
 try simp only[Act.put,sA,sB,sC]
 refine htake 44 ((.func (.func 120) #[] #[.pointer (some ⟨w.heap.size+1+1,0,none⟩)]:Value)) (hy:=?_) (h:=?_)
 · exact zFM_0
 try simp only[Act.put,sA,sB,sC]
 refine htake 46 ((.pointer (some ⟨w.heap.size,11,none⟩):Value)) (hy:=?_) (h:=?_)
 · exact zFM_0
 try simp only[Act.put,sA,sB,sC]
 refine htake 47 ((.slice P.ssp P.ssm P.ssc:Value)) (hy:=?_) (h:=?_)
 · intro W2 hS2;replace hS2:=(show SiS w P x n13 W2 from hS2)
   have q11:=hS2.f11;exact zFM_1
 try simp only[Act.put,sA,sB,sC]
 refine htake 48 ((.func (.func 123) #[] #[.pointer (some ⟨w.heap.size,0,none⟩)]:Value)) (hy:=?_) (h:=?_)
 · exact zFM_0
 try simp only[Act.put,sA,sB,sC]
 refine htake 50 ((.agg (cSte x P):Value)) (hy:=?_) (h:=?_)
 · intro W2 hS2;replace hS2:=(show SiS w P x n13 W2 from hS2)
   have q13:=hS2.f13;exact zFM_1
 try simp only[Act.put,sA,sB,sC]
 refine hrdy [4] ?_;refine hcons (fun K hK=>?_) ?_;rotate_left 1
 · exact AllReadyH.nil
 go_simp
 refine(HC.c1 _ (hI0.at bl)).mono ?_;rintro e v1 ⟨rfl,hI1⟩;clear hHeld;refine hK.out _ _ (show((fun(W:World)=>SiS w P x n13 W)) _ from(HC.fs _ _ _ hI1 bl)) (fun hHeld=>?_);clear hK K
 (try simp only[Act.put,sA,sB,sC])
 refine hrdy [8] ?_;refine hcons (fun K hK=>?_) ?_;rotate_left 1
 · exact AllReadyH.nil
 go_simp
 refine(HC.c2 _ (hI1.at bl)).mono ?_;rintro e v2 ⟨rfl,hI2⟩;clear hHeld;refine hK.out _ _ (show((fun(W:World)=>SiS w P x n13 W)) _ from(HC.fs _ _ _ hI2 bl)) (fun hHeld=>?_);clear hK K
 (try simp only[Act.put,sA,sB,sC])
 refine hrdy [12] ?_;refine hcons (fun K hK=>?_) ?_;rotate_left 1
 · exact AllReadyH.nil
 go_simp
 refine(HC.c3 _ (hI2.at bl)).mono ?_;rintro e v3 ⟨rfl,hI3⟩;clear hHeld;refine hK.out _ _ (show((fun(W:World)=>SiS w P x n13 W)) _ from(HC.fs _ _ _ hI3 bl)) (fun hHeld=>?_);clear hK K
 (try simp only[Act.put,sA,sB,sC])
 refine hrdy [16] ?_;refine hcons (fun K hK=>?_) ?_;rotate_left 1
 · exact AllReadyH.nil
 go_simp
 refine(HC.c4 _ (hI3.at bl)).mono ?_;rintro e v4 ⟨rfl,hI4⟩;clear hHeld;refine hK.out _ _ (show((fun(W:World)=>SiS w P x n13 W)) _ from(HC.fs _ _ _ hI4 bl)) (fun hHeld=>?_);clear hK K
 (try simp only[Act.put,sA,sB,sC])
 refine hrdy [21] ?_;refine hcons (fun K hK=>?_) ?_;rotate_left 1
 · exact AllReadyH.nil
 go_simp
 refine(HC.c5 _ (hI4.at bl)).mono ?_;rintro e v5 ⟨rfl,hI5⟩;clear hHeld;refine hK.out _ _ (show((fun(W:World)=>SiS w P x n13 W)) _ from(HC.fs _ _ _ hI5 bl)) (fun hHeld=>?_);clear hK K
 (try simp only[Act.put,sA,sB,sC])
 refine hrdy [26] ?_;refine hcons (fun K hK=>?_) ?_;rotate_left 1
 · exact AllReadyH.nil
 go_simp
 refine(HC.c6 _ (hI5.at bl)).mono ?_;rintro e v6 ⟨rfl,hI6⟩;clear hHeld;refine hK.out _ _ (show((fun(W:World)=>SiS w P x n13 W)) _ from(HC.fs _ _ _ hI6 bl)) (fun hHeld=>?_);clear hK K
 (try simp only[Act.put,sA,sB,sC])
 refine hrdy [31] ?_;refine hcons (fun K hK=>?_) ?_;rotate_left 1
 · exact AllReadyH.nil
 go_simp
 refine(HC.c7 _ (hI6.at bl)).mono ?_;rintro e v7 ⟨rfl,hI7⟩;clear hHeld;refine hK.out _ _ (show((fun(W:World)=>SiS w P x n13 W)) _ from(HC.fs _ _ _ hI7 bl)) (fun hHeld=>?_);clear hK K
 (try simp only[Act.put,sA,sB,sC])
 refine hrdy [36] ?_;refine hcons (fun K hK=>?_) ?_;rotate_left 1
 · exact AllReadyH.nil
 go_simp
 refine(HC.c8 _ (hI7.at bl)).mono ?_;rintro e v8 ⟨rfl,hI8⟩;clear hHeld;refine hK.out _ _ (show((fun(W:World)=>SiS w P x n13 W)) _ from(HC.fs _ _ _ hI8 bl)) (fun hHeld=>?_);clear hK K
 (try simp only[Act.put,sA,sB,sC])
 refine hrdy [41] ?_;refine hcons (fun K hK=>?_) ?_;rotate_left 1
 · exact AllReadyH.nil
 go_simp
 refine(HC.c9 _ (hI8.at bl)).mono ?_;rintro e v9 ⟨rfl,hI9⟩;clear hHeld;refine hK.out _ _ (show((fun(W:World)=>SiS w P x n13 W)) _ from(HC.fs _ _ _ hI9 bl)) (fun hHeld=>?_);clear hK K
 (try simp only[Act.put,sA,sB,sC])
 refine hrdy [45] ?_;refine hcons (fun K hK=>?_) ?_;rotate_left 1
 · exact AllReadyH.nil
 go_simp
 refine(HC.c10 _ (hI9.at bl)).mono ?_;rintro e v10 ⟨rfl,hI10⟩;clear hHeld;refine hK.out _ _ (show((fun(W:World)=>SiS w P x n13 W)) _ from(HC.fs _ _ _ hI10 bl)) (fun hHeld=>?_);clear hK K
 (try simp only[Act.put,sA,sB,sC])
 refine hrdy [49] ?_;refine hcons (fun K hK=>?_) ?_;rotate_left 1
 · exact AllReadyH.nil
 go_simp
 refine(HC.c11 _ (hI10.at bl)).mono ?_;rintro e v11 ⟨rfl,hI11⟩;clear hHeld;refine hK.out _ _ (show((fun(W:World)=>SiS w P x n13 W)) _ from(HC.fs _ _ _ hI11 bl)) (fun hHeld=>?_);clear hK K
 (try simp only[Act.put,sA,sB,sC])
 refine hrdy [51] ?_;refine hcons (fun K hK=>?_) ?_;rotate_left 1
 · exact AllReadyH.nil
 go_simp
 refine(HC.c12 _ (hI11.at bl)).mono ?_;rintro e v12 ⟨rfl,hI12⟩;clear hHeld;refine hK.out _ _ (show((fun(W:World)=>SiS w P x n13 W)) _ from(HC.fs _ _ _ hI12 bl)) (fun hHeld=>?_);clear hK K
 (try simp only[Act.put,sA,sB,sC])
 refine hrdy [52] ?_;refine hcons (fun K hK=>?_) ?_;rotate_left 1
 · exact AllReadyH.nil
 go_simp
 clear hHeld;refine hK.out _ _ (show((fun(W:World)=>SiS w P x n13 W)) _ from(HC.fs _ _ _ hI12 bl)) (fun hHeld=>?_);clear hK K
 (try simp only[Act.put,sA,sB,sC])
 refine hrdy [53] ?_;refine hcons (fun K hK=>?_) ?_;rotate_left 1
 · exact AllReadyH.nil
 go_simp
 refine(or_any [e1,e2,e3,e4,e5,e6,e7,e8,e9,e10,e11,e12] _ 12 12 _ rfl (by omega) (hid (cells12 _ _ _ _ _ _ _ _ _ _ _ _ _ _))).mono ?_;rintro e w9 ⟨rfl,rfl⟩;clear hHeld;refine hK.out _ _ (show((fun(W:World)=>SiS w P x n13 W)) _ from(HC.fs _ _ _ hI12 bl)) (fun hHeld=>?_);clear hK K
 (try simp only[Act.put,sA,sB,sC])
 refine wpAnyH_take (i:=54) (oi:={ dst:=some 2,op:=Op.assign (Operand.tmp 58),type:=28,pos := "model.go:185",after:=#[{ on:=53,ground:=Ground.data },{ on:=53,ground:=Ground.chain },{ on:=0,ground:=Ground.phase },{ on:=1,ground:=Ground.phase },{ on:=2,ground:=Ground.phase },{ on:=3,ground:=Ground.phase },{ on:=4,ground:=Ground.phase },{ on:=5,ground:=Ground.phase },{ on:=6,ground:=Ground.phase },{ on:=7,ground:=Ground.phase },{ on:=8,ground:=Ground.phase },{ on:=9,ground:=Ground.phase },{ on:=10,ground:=Ground.phase },{ on:=11,ground:=Ground.phase },{ on:=12,ground:=Ground.phase },{ on:=13,ground:=Ground.phase },{ on:=14,ground:=Ground.phase },{ on:=15,ground:=Ground.phase },{ on:=16,ground:=Ground.phase },{ on:=17,ground:=Ground.phase },{ on:=18,ground:=Ground.phase },{ on:=19,ground:=Ground.phase },{ on:=20,ground:=Ground.phase },{ on:=21,ground:=Ground.phase },{ on:=22,ground:=Ground.phase },{ on:=23,ground:=Ground.phase },{ on:=24,ground:=Ground.phase },{ on:=25,ground:=Ground.phase },{ on:=26,ground:=Ground.phase },{ on:=27,ground:=Ground.phase },{ on:=28,ground:=Ground.phase },{ on:=29,ground:=Ground.phase },{ on:=30,ground:=Ground.phase },{ on:=31,ground:=Ground.phase },{ on:=32,ground:=Ground.phase },{ on:=33,ground:=Ground.phase },{ on:=34,ground:=Ground.phase },{ on:=35,ground:=Ground.phase },{ on:=36,ground:=Ground.phase },{ on:=37,ground:=Ground.phase },{ on:=38,ground:=Ground.phase },{ on:=39,ground:=Ground.phase },{ on:=40,ground:=Ground.phase },{ on:=41,ground:=Ground.phase },{ on:=42,ground:=Ground.phase },{ on:=43,ground:=Ground.phase },{ on:=44,ground:=Ground.phase },{ on:=45,ground:=Ground.phase },{ on:=46,ground:=Ground.phase },{ on:=47,ground:=Ground.phase },{ on:=48,ground:=Ground.phase },{ on:=49,ground:=Ground.phase },{ on:=50,ground:=Ground.phase },{ on:=51,ground:=Ground.phase },{ on:=52,ground:=Ground.phase },{ on:=53,ground:=Ground.phase }],guard:=none }) (v:=(.int .i64 (orL [e1,e2,e3,e4,e5,e6,e7,e8,e9,e10,e11,e12]):Value)) rfl (by kernel_rfl) (by kernel_rfl) (by kernel_rfl) (fun _ _ _ h=>h) (Or.inl ⟨by rfl,?_⟩) (by assumption) ?_
 · exact zFM_0
 try simp only[Act.put,sA,sB,sC]
 refine wpAnyH_done (by kernel_rfl) ?_ _;refine NoPanic.normal ?_;have HI12:=hid hI12.below;go_wp2_with fail;go_ret;exact⟨by rw[← hV.out];rfl,by have HBB:=HI12.out;exact bl⟩
theorem checkSite_any (hK:KindC) (x:Ste) (P:PSte) (w:World) (hx:OSte (Lo w.heap.size) w x P) (hz:ZSte x):Calls Tryz.prog 74 #[.agg (cSte x P)] w (Gives (.int .i64 (siteT x)) w):=by
 obtain⟨n13,hn13⟩:∃n:Nat,13=n:=⟨_,rfl⟩
 obtain⟨e1,e2,e3,e4,e5,e6,e7,e8,e9,e10,e11,e12,a1,a2,a3,a4,a5,a6,a7,a8,a9,a10,HC,HT⟩:=sitC_any hK x P w hx hz n13 hn13;rw[HT];exact site_walk x P w n13 (fun w=>by rw[Tryz.sizeOf53,hn13]) e1 e2 e3 e4 e5 e6 e7 e8 e9 e10 e11 e12 a1 a2 a3 a4 a5 a6 a7 a8 a9 a10 HC
end Go.Proofs.YtbgodajefaahdaaGreatDoor.Md
namespace Go.Proofs.YtbgodajefaahdaaGreatDoor.Md
open Go.RowKit Go.Maps
open Go.Proofs.YtbgodajefaahdaaGreatDoor.Na (bs chk)
open Go.Proofs.YtbgodajefaahdaaGreatDoor.Sm (orE_right orL or_any)
open Go.Proofs.YtbgodajefaahdaaGreatDoor.Ex (Lo Gives)
set_option maxHeartbeats 8000000
theorem sites_each (hK:KindC) (l:List Ste) (p:Option Addr) (m c:Nat) (w0:World) (hx:Rw 13 RSte (Lo w0.heap.size) w0 l p m) (hz:∀x∈l,ZSte x) (b B1:Nat) (hb:w0.heap.size<=b) (h1:B1≠b) (W:World) (hW:Sco w0 b (fun V=>V.cell? ⟨B1,0,none⟩=some (.map (some b))) [] W) :
 Calls Tryz.prog 72 #[.slice p m c,.int .i64 ((16:Nat):Int),.func (.func 73) #[] #[.pointer (some ⟨B1,0,none⟩)]] W (fun e W2=>e=.returned (.int .i64 (eachE stepN 16 (l.map siteP) []).1)/\Below w0.heap.size w0 W2):=by
 have hSt:Stb b (fun V=>V.cell? ⟨B1,0,none⟩=some (.map (some b))):=fun V V2 h hbt=>cell_but hbt h h1;rw[eachE_map];refine(each_Ste (hid hx) #[] #[.pointer (some ⟨B1,0,none⟩)] _ (hid (Sco.fine hb hSt)) (fun a l=>stepN a (siteP l)) 16 (by omega) [] (hid fun k s x c V hxk hm hg hR hI=>?_) W (hid hW)).mono fun e W2 h=>⟨h.1,h.2.below⟩
 rw[arg1];obtain⟨Q,rfl,hQ⟩:=hR;have hsh:=go_short hm hg;have hzx:=hz x (List.mem_of_getElem? hxk);have hl0:s.length<=0+16:=hsh;refine(clo_Ste x Q b B1 s V hI.scp (by omega) hzx.nm hI.k h1 (siteT x) (hid fun V2 hbt=>?_)).mono fun e W2 h=>hI.step hb hSt h;have hb2:Below w0.heap.size w0 V2:=But.below hI.below hbt hb hI.below.size;exact checkSite_any hK x Q V2 ((hQ.below (but_below hI.below hbt hb)).up hb2.size) hzx
set_option maxRecDepth 100000 in
theorem checkSites_any (hK:KindC) (l:List Ste) (p:Option Addr) (m c:Nat) (w:World) (hx:Rw 13 RSte (Lo w.heap.size) w l p m) (hz:∀x∈l,ZSte x):Calls Tryz.prog 38 #[.slice p m c] w (Gives (.int .i64 (if l.length=0 then 7 else (eachE stepN 16 (l.map siteP) []).1)) w):=by
 obtain⟨hl,hm⟩:=hx.len;have hmm:=@run_makeMap Tryz.prog;by_cases h0:m=0
 · rw[if_pos (by omega)];subst h0;clear hx hz hl hm;go_enter Tryz.func38,Tryz.ntmps38;go_wp2_with fail;go_ret;exact⟨rfl,bl⟩
 · rw[if_neg (by omega)];obtain⟨v,hv⟩:∃v,(eachE stepN 16 (l.map siteP) []).1=v:=⟨_,rfl⟩
   have CE:=hid (fun W (h1:Below w.heap.size w W) (h2:Scp w.heap.size [] W) (h3:W.cell? ⟨w.heap.size+1,0,none⟩=some (.map (some w.heap.size)))=>(show Calls Tryz.prog 72 #[.slice p m c,.int .i64 16,.func (.func 73) #[] #[.pointer (some ⟨w.heap.size+1,0,none⟩)]] W (Gives' w (.int .i64 v)) by
    rw[← hv];exact sites_each hK l p m c w hx hz w.heap.size (w.heap.size+1) (by omega) (by omega) W ⟨h1,h2,h3⟩))
   have d0:¬(m:Int)=0:=by omega
   rw[hv];clear hx hz hl hm hv h0;go_enter Tryz.func38,Tryz.ntmps38;go_wp2_with fail;refine(CE.out _ bl ((scp_made (w:=w) rfl).on bl) (by go_simp)).mono ?_;rintro e v1 ⟨rfl,hb1⟩;go_wp2_with fail;go_ret;exact⟨rfl,hb1⟩
structure ZMdl (x:Mdl):Prop where
 nm:x.nm.size<=9223372036854775807
 pa:∀y∈x.pa,y.nm.size<=9223372036854775807
 si:∀y∈x.si,ZSte y
 li:∀l∈x.li,l.fr.size<=1000000000/\l.tt.size<=1000000000
structure MdS (w:World) (P:PMdl) (x:Mdl) (n4:Nat) (W:World):Prop where
 f0:W.cell? ⟨w.heap.size,0,none⟩=some (.string x.nm)
 f1:W.cell? ⟨w.heap.size,1,none⟩=some (.slice P.pap P.pam P.pac)
 f2:W.cell? ⟨w.heap.size,2,none⟩=some (.slice P.sip P.sim P.sic)
 ld:(loadCellsFrom ⟨w.heap.size,0,none⟩ 0 n4 #[]).run Tryz.prog W=.ok (cMdl x P) W
structure MdC (w:World) (P:PMdl) (x:Mdl) (n4:Nat) (v1 v2 v3 v4:Int):Prop where
 c1:∀W,Below w.heap.size w W->Calls Tryz.prog 35 #[.string x.nm] W (Gives (.int .i64 v1) W)
 c2:∀W b,(w.alloc (.cells (cMdl x P) 27)).heap.size<=b->Below (w.alloc (.cells (cMdl x P) 27)).heap.size (w.alloc (.cells (cMdl x P) 27)) W->Scp b [] W->Calls Tryz.prog 36 #[.slice P.pap P.pam P.pac,.int .i64 32,.func (.func 37) #[.map (some b)] #[]] W (fun e W2=>e=.returned (.int .i64 v2)/\Below (w.alloc (.cells (cMdl x P) 27)).heap.size (w.alloc (.cells (cMdl x P) 27)) W2)
 c3:∀W,Below w.heap.size w W->Calls Tryz.prog 38 #[.slice P.sip P.sim P.sic] W (Gives (.int .i64 v3) W)
 c4:∀W,Below w.heap.size w W->Calls Tryz.prog 39 #[.agg (cMdl x P)] W (Gives (.int .i64 v4) W)
 fs:∀W,Below (w.alloc (.cells (cMdl x P) 27)).heap.size (w.alloc (.cells (cMdl x P) 27)) W->MdS w P x n4 W
theorem cells4 (w:World) (t:TypeId) (r0 r1 r2 r3:Int):∀i,(h:i<[r0,r1,r2,r3].length)->(w.alloc (.cells #[.int .i64 r0,.int .i64 r1,.int .i64 r2,.int .i64 r3] t)).cell? ⟨w.heap.size,i,none⟩=some (.int .i64 [r0,r1,r2,r3][i]):=by
 intro i h;rw[World.cell?_alloc_mark]
 match i,h with
 | 0,_=>rfl
 | 1,_=>rfl
 | 2,_=>rfl
 | 3,_=>rfl
theorem zFN_1 {p:Prop} (h:p:=by
 clear hHeld HC hmm
 first|(go_simp;done)|(go_simp;with_reducible rfl)|(go_simp;rfl)
 ):p:=h
theorem zFN_2 {p:Prop} (h:p:=by
 intro W2 hS2;replace hS2:=(show MdS w P x n4 W2 from hS2)
 exact zFN_1
 ):p:=h
theorem zFN_0 {p:Prop} (h:p:=by
 rintro e u2 ⟨rfl,hb2⟩;clear hHeld;refine hK.out _ _ (show((fun(W:World)=>MdS w P x n4 W)) _ from HC.fs _ bl) (fun hHeld=>?_);clear hK K
 try simp only[Act.put,sA,sB,sC]
 refine hcall 10 (fun K hK=>?_)
 go_simp
 refine(HC.c3 _ bl).mono ?_;rintro e u3 ⟨rfl,hb3⟩;clear hHeld;refine hK.out _ _ (show((fun(W:World)=>MdS w P x n4 W)) _ from HC.fs _ bl) (fun hHeld=>?_);clear hK K
 try simp only[Act.put,sA,sB,sC]
 refine hcall 12 (fun K hK=>?_)
 go_simp
 refine(HC.c4 _ bl).mono ?_;rintro e u4 ⟨rfl,hb4⟩;clear hHeld;refine hK.out _ _ (show((fun(W:World)=>MdS w P x n4 W)) _ from HC.fs _ bl) (fun hHeld=>?_);clear hK K
 try simp only[Act.put,sA,sB,sC]
 refine hcall 13 (fun K hK=>?_)
 go_simp
 clear hHeld;refine hK.out _ _ (show((fun(W:World)=>MdS w P x n4 W)) _ from HC.fs _ bl) (fun hHeld=>?_);clear hK K
 try simp only[Act.put,sA,sB,sC]
 refine hcall 14 (fun K hK=>?_)
 go_simp
 refine(or_any [v1,v2,v3,v4] _ 4 4 _ rfl (by omega) (hid (cells4 _ _ _ _ _ _))).mono ?_;rintro e w9 ⟨rfl,rfl⟩;clear hHeld;refine hK.out _ _ (show((fun(W:World)=>MdS w P x n4 W)) _ from HC.fs _ bl) (fun hHeld=>?_);clear hK K
 try simp only[Act.put,sA,sB,sC]
 refine wpAnyH_take (i:=15) (oi:={ dst:=some 2,op:=Op.assign (Operand.tmp 17),type:=28,pos := "model.go:24",after:=#[{ on:=14,ground:=Ground.data },{ on:=14,ground:=Ground.chain },{ on:=0,ground:=Ground.phase },{ on:=1,ground:=Ground.phase },{ on:=2,ground:=Ground.phase },{ on:=3,ground:=Ground.phase },{ on:=4,ground:=Ground.phase },{ on:=5,ground:=Ground.phase },{ on:=6,ground:=Ground.phase },{ on:=7,ground:=Ground.phase },{ on:=8,ground:=Ground.phase },{ on:=9,ground:=Ground.phase },{ on:=10,ground:=Ground.phase },{ on:=11,ground:=Ground.phase },{ on:=12,ground:=Ground.phase },{ on:=13,ground:=Ground.phase },{ on:=14,ground:=Ground.phase }],guard:=none }) (v:=(.int .i64 (orL [v1,v2,v3,v4]):Value)) rfl (by kernel_rfl) (by kernel_rfl) (by kernel_rfl) (fun _ _ _ h=>h) (Or.inl ⟨by rfl,?_⟩) (by assumption) ?_
 · exact zFN_2
 try simp only[Act.put,sA,sB,sC]
 refine wpAnyH_done (by kernel_rfl) ?_ _;refine NoPanic.normal ?_;go_wp2_with fail;go_ret;exact⟨rfl,bl⟩
 ):p:=h
set_option maxRecDepth 100000 in
theorem check_walk (x:Mdl) (P:PMdl) (w:World) (n4:Nat) (hsz4:∀w,(sizeOf 27).run Tryz.prog w=.ok n4 w) (v1 v2 v3 v4:Int) (HC:MdC w P x n4 v1 v2 v3 v4):Calls Tryz.prog 15 #[.agg (cMdl x P)] w (Gives (.int .i64 (orL [v1,v2,v3,v4])) w):=by
 have hmm:=@run_makeMap Tryz.prog;go_enter Tryz.func15,Tryz.ntmps15;go_wp2_with fail;refine wp_region_noPanic ?_;refine wp_region_held_drew (S:=(fun(W:World)=>MdS w P x n4 W)) (by kernel_rfl) (show((fun(W:World)=>MdS w P x n4 W)) _ from HC.fs _ bl) (fun hHeld=>?_);refine htake 0 ((.pointer (some ⟨w.heap.size,0,none⟩):Value)) (hy:=?_) (h:=?_)
 · exact zFN_2
 try simp only[Act.put,sA,sB,sC]
 refine htake 1 ((.string x.nm:Value)) (hy:=?_) (h:=?_)
 · intro W2 hS2;replace hS2:=(show MdS w P x n4 W2 from hS2)
   have qf0:=hS2.f0;exact zFN_1
 try simp only[Act.put,sA,sB,sC]
 refine htake 3 ((.pointer (some ⟨w.heap.size,1,none⟩):Value)) (hy:=?_) (h:=?_)
 · exact zFN_2
 try simp only[Act.put,sA,sB,sC]
 refine htake 4 ((.slice P.pap P.pam P.pac:Value)) (hy:=?_) (h:=?_)
 · intro W2 hS2;replace hS2:=(show MdS w P x n4 W2 from hS2)
   have qf1:=hS2.f1;exact zFN_1
 try simp only[Act.put,sA,sB,sC]
 refine htake 8 ((.pointer (some ⟨w.heap.size,2,none⟩):Value)) (hy:=?_) (h:=?_)
 · exact zFN_2
 try simp only[Act.put,sA,sB,sC]
 refine htake 9 ((.slice P.sip P.sim P.sic:Value)) (hy:=?_) (h:=?_)
 · intro W2 hS2;replace hS2:=(show MdS w P x n4 W2 from hS2)
   have qf2:=hS2.f2;exact zFN_1
 try simp only[Act.put,sA,sB,sC]
 refine htake 11 ((.agg (cMdl x P):Value)) (hy:=?_) (h:=?_)
 · intro W2 hS2;replace hS2:=(show MdS w P x n4 W2 from hS2)
   have qld:=hS2.ld;exact zFN_1
 try simp only[Act.put,sA,sB,sC]
 refine hrdy [2,5] ?_;refine hcons (fun K hK=>?_) ?_;rotate_left 1
 · refine hcons (fun K hK=>?_) AllReadyH.nil
   go_simp
   clear hHeld;refine hK.out _ _ (show((fun(W:World)=>MdS w P x n4 W)) _ from HC.fs _ bl) (fun hHeld=>?_);clear hK K
   try simp only[Act.put,sA,sB,sC]
   refine htake 6 ((.func (.func 37) #[.map (some (w.heap.size+1))] #[]:Value)) (hy:=?_) (h:=?_)
   · exact zFN_2
   try simp only[Act.put,sA,sB,sC]
   refine hcall 2 (fun K hK=>?_)
   go_simp
   refine(HC.c1 _ bl).mono ?_;rintro e u1 ⟨rfl,hb1⟩;clear hHeld;refine hK.out _ _ (show((fun(W:World)=>MdS w P x n4 W)) _ from HC.fs _ bl) (fun hHeld=>?_);clear hK K
   try simp only[Act.put,sA,sB,sC]
   refine hcall 7 (fun K hK=>?_)
   go_simp
   refine(HC.c2 _ _ (by simp) bl ((scp_made (w:=(w.alloc (.cells (cMdl x P) 27))) (n:=w.heap.size+1) (by simp)).on bl)).mono ?_;exact zFN_0
 go_simp
 refine(HC.c1 _ bl).mono ?_;rintro e u1 ⟨rfl,hb1⟩;clear hHeld;refine hK.out _ _ (show((fun(W:World)=>MdS w P x n4 W)) _ from HC.fs _ bl) (fun hHeld=>?_);clear hK K
 try simp only[Act.put,sA,sB,sC]
 refine hcall 5 (fun K hK=>?_)
 go_simp
 clear hHeld;refine hK.out _ _ (show((fun(W:World)=>MdS w P x n4 W)) _ from HC.fs _ bl) (fun hHeld=>?_);clear hK K
 try simp only[Act.put,sA,sB,sC]
 refine htake 6 ((.func (.func 37) #[.map (some u1.heap.size)] #[]:Value)) (hy:=?_) (h:=?_)
 · exact zFN_2
 try simp only[Act.put,sA,sB,sC]
 refine hcall 7 (fun K hK=>?_)
 go_simp
 refine(HC.c2 _ _ (show Below (w.alloc (.cells (cMdl x P) 27)).heap.size (w.alloc (.cells (cMdl x P) 27)) u1 by exact bl).size bl ((scp_made (w:=u1) rfl).on bl)).mono ?_;exact zFN_0
theorem check_any (hK:KindC) (x:Mdl) (P:PMdl) (w:World) (hx:OMdl (Lo w.heap.size) w x P) (hz:ZMdl x):Calls Tryz.prog 15 #[.agg (cMdl x P)] w (Gives (.int .i64 (mdlE x)) w):=by
 obtain⟨n4,hn4⟩:∃n:Nat,4=n:=⟨_,rfl⟩
 have FX:=far (w:=w) 27 (cMdl x P);have hb1:Below w.heap.size w (w.alloc (.cells (cMdl x P) 27)):=bl;rw[show mdlE x=orL [chk (bs x.nm),parE x,sitesE x,lnksE x] by unfold mdlE;simp only[orL,orE_right]];refine check_walk x P w n4 (fun w=>by rw[Tryz.sizeOf27,hn4]) _ _ _ _ ⟨fun W hW=>?_,fun W b hb hW hS=>?_,fun W hW=>?_,fun W hW=>?_,fun W hW=>?_⟩
 · exact Na.check_any x.nm W hz.nm
 · exact(each_vals (c:=P.pac) (K:=fun _=>True) hb (Stb.top b) (hx.on hb1).pa hz.pa 32 (by omega) [] (by simp) W ⟨hW,hS,trivial⟩).mono fun e W2 h=>⟨h.1,h.2.below⟩
 · exact checkSites_any hK x.si P.sip P.sim P.sic W (hx.on hW).si hz.si
 · exact checkLinks_any x P W (hx.on hW) hz.li
 · have q:=FX.out W hW;exact⟨q.get (cMdl0 x P),q.get (cMdl1 x P),q.get (cMdl2 x P),q.cell.ldN hn4⟩
end Go.Proofs.YtbgodajefaahdaaGreatDoor.Md
namespace Go.Proofs.YtbgodajefaahdaaGreatDoor.Md
open Go.ChangeShapes Go.WideShapes Go.ChangeAt Go.RowKit Go.Joins Go.Deep
open Go.Proofs.YtbgodajefaahdaaGreatDoor.Sm (cnL)
set_option maxHeartbeats 2000000
structure Fit (x:Mdl):Prop where
 z:ZMdl x
 n:∀y∈x.si,NwSte y
 c:∀y∈x.si,∀r∈y.ro,cnL r.bo<=4000000
end Go.Proofs.YtbgodajefaahdaaGreatDoor.Md
namespace Go.Proofs.YtbgodajefaahdaaGreatDoor.Ps
open Go.Proofs.YtbgodajefaahdaaGreatDoor.Ps.P (rt fl bd acc see len)
open Go.Proofs.YtbgodajefaahdaaGreatDoor.Lx (Tk)
open Go.Proofs.YtbgodajefaahdaaGreatDoor.Md (Val Res Sto Blt Fld Rou Sta Lw Lnk Ste Mdl ZSte ZRou NwSte Fit names)
structure QL {α:Type} (P:α->Nat->Prop) (l:List α) (d:Nat):Prop where
 all:∀y∈l,P y d
 len:l.length<=d
theorem QL.nil {α:Type} {P:α->Nat->Prop} {d:Nat}:QL P [] d:=⟨fun y hy=>(by cases hy),Nat.zero_le _⟩
theorem QL.le {α:Type} {P:α->Nat->Prop} (hm:∀x a b,P x a->a<=b->P x b) {l:List α} {d c:Nat} (h:QL P l d) (hd:d<=c):QL P l c:=⟨fun y hy=>hm _ _ _ (h.all y hy) hd,Nat.le_trans h.len hd⟩
theorem zFP_0 {p:Prop} (h:p:=by omega):p:=h
theorem QL.snoc {α:Type} {P:α->Nat->Prop} (hm:∀x a b,P x a->a<=b->P x b) {l:List α} {y:α} {d c k:Nat} (h:QL P l d) (hy:P y c) (hk:d+(1+c)<=k):QL P (l++[y]) k:=by
 refine⟨fun z hz=>?_,by have:=h.len;simp;omega⟩;rcases List.mem_append.1 hz with hz|hz
 · exact hm _ _ _ (h.all z hz) zFP_0
 · rw[List.mem_singleton] at hz;subst hz;exact hm _ _ _ hy zFP_0
def sT (s:ByteArray) (d:Nat):Prop:=s.size<=20000
def sVal (x:Val) (d:Nat):Prop:=x.nm.size<=20000
def sRes (x:Res) (d:Nat):Prop:=x.nm.size<=20000
def sSto (x:Sto) (d:Nat):Prop:=x.nm.size<=20000
def sBlt (x:Blt) (d:Nat):Prop:=x.nm.size<=20000
def sSta (x:Sta) (d:Nat):Prop:=True
def sLw (x:Md.Lw) (d:Nat):Prop:=x.nm.size<=20000
def sLnk (x:Lnk) (d:Nat):Prop:=x.fr.size<=20000/\x.tt.size<=20000
def zFld (x:Fld) (d:Nat):Prop:=1<=d/\x.nm.size<=20000
structure sRou (x:Rou) (d:Nat):Prop where
 nm:x.nm.size<=20000
 fl:∀f∈x.ps++x.ls,f.nm.size<=20000
 ln:(x.ps++x.ls).length<=d
 bo:QSL x.bo d
theorem sRou.le (x:Rou) (a b:Nat) (h:sRou x a) (hb:a<=b):sRou x b:=⟨h.nm,h.fl,Nat.le_trans h.ln hb,h.bo.le hb⟩
structure sSte (x:Ste) (d:Nat):Prop where
 nm:x.nm.size<=20000
 va:QL sVal x.va d
 rs:QL sRes x.rs d
 st:QL sSto x.st d
 be:QL sBlt x.be d
 qu:QL sT x.qu d
 sm:QL sT x.sm d
 ta:QL sT x.ta d
 le:QL sT x.le d
 co:QL sT x.co d
 ro:QL sRou x.ro d
 ss:QL sSta x.ss d
 la:QL sLw x.la d
theorem sSte.up (x:Ste) (a b:Nat) (h:sSte x a) (hb:a<=b):sSte x b:=⟨h.nm,h.va.le (fun _ _ _ h _=>h) hb,h.rs.le (fun _ _ _ h _=>h) hb,h.st.le (fun _ _ _ h _=>h) hb,h.be.le (fun _ _ _ h _=>h) hb,h.qu.le (fun _ _ _ h _=>h) hb,h.sm.le (fun _ _ _ h _=>h) hb,h.ta.le (fun _ _ _ h _=>h) hb,h.le.le (fun _ _ _ h _=>h) hb,h.co.le (fun _ _ _ h _=>h) hb,h.ro.le sRou.le hb,h.ss.le (fun _ _ _ h _=>h) hb,h.la.le (fun _ _ _ h _=>h) hb⟩
structure sMdl (x:Mdl) (d:Nat):Prop where
 nm:x.nm.size<=20000
 pa:QL sVal x.pa d
 si:QL sSte x.si d
 li:QL sLnk x.li d
theorem sMdl.up (x:Mdl) (a b:Nat) (h:sMdl x a) (hb:a<=b):sMdl x b:=⟨h.nm,h.pa.le (fun _ _ _ h _=>h) hb,h.si.le sSte.up hb,h.li.le (fun _ _ _ h _=>h) hb⟩
theorem eat_any {α:Type} {n:Nat} {m:P α} (h:Dn n m):Eat (fun _ d=>n<=d) m:=⟨fun {t u x} g e=>by have h1:=h.out g e;exact⟨h1.1,t.length-u.length,by omega,by omega⟩⟩
theorem eat_typ:Eat (fun _ d=>1<=d) typ:=eat_any dn_typ
theorem eat_nmL:Eat sT nmL:=.bd eat_nam fun s a ha=>.bd eat_eol fun _ b hb=>.rt ha.2
theorem eat_val:Eat sVal val:=.bd eat_nam fun s a ha=>.bd eat_typ fun y b hb=>.bd (eat_exp (by decide)) fun _ c hc=>.bd (Q':=fun _ _=>True) (.iff (eat_tru.imp fun _ _ _=>trivial) (eat_itg.imp fun _ _ _=>trivial)) fun n d hn=>.bd eat_eol fun _ k hk=>.rt ha.2
theorem eat_fld:Eat zFld fld:=.bd eat_nam fun s a ha=>.bd eat_typ fun y b hb=>.rt ⟨by omega,ha.2⟩
theorem eat_rsc:Eat sRes rsc:=.bd eat_nam fun s a ha=>.bd eat_num fun n b hb=>.bd (eat_any dn_shf) fun h c hc=>.bd (eat_any dn_flt) fun f d hd=>.bd eat_eol fun _ k hk=>.rt ha.2
theorem eat_sto:Eat sSto sto:=.bd eat_nam fun s a ha=>.bd eat_num fun n b hb=>.bd (eat_any dn_pol) fun p c hc=>.bd eat_eol fun _ k hk=>.rt ha.2
theorem eat_blt:Eat sBlt blt:=.bd eat_nam fun s a ha=>.bd eat_num fun n b hb=>.bd eat_num fun p c hc=>.bd eat_eol fun _ k hk=>.rt ha.2
theorem eat_lcL:∀n l k,(∀f∈l,f.nm.size<=20000)->l.length<=k->Eat (fun x d=>(∀f∈x,f.nm.size<=20000)/\x.length<=k+d) (lcL n l)
 | 0,_,_,_,_=>.fl
 | n+1,l,k,h,hk=>.acc (by decide) (.bd eat_fld fun x a ha=>.bd eat_eol fun _ b hb=>(eat_lcL n (l++[x]) (k+a) (fun f hf=>by
  rcases List.mem_append.1 hf with hf|hf
  · exact h f hf
  · rw[List.mem_singleton] at hf;subst hf;exact ha.2) (by have:=ha.1;simp;omega)).imp fun y c hy=>⟨hy.1,by omega⟩) (.rt ⟨h,by omega⟩)
theorem eat_rou:Eat sRou rou:=.bd eat_nam fun s a ha=>.bd (eat_lst (Q:=zFld) (fun x a b h hb=>⟨Nat.le_trans h.1 hb,h.2⟩) (fun x d h=>h.1) eat_fld) fun ps b hb=>.bd eat_eol fun _ c hc=>.bd (eat_lcL FU [] 0 (fun f hf=>by cases hf) (Nat.le_refl _)) fun ls d hd=>.bd eat_sts fun bo e he=>.bd (eat_exp (by decide)) fun _ k hk=>.bd eat_eol fun _ j hj=>
 .rt ⟨ha.2,fun f hf=>by
  rcases List.mem_append.1 hf with hf|hf
  · exact(hb.1 f hf).2
  · exact hd.1 f hf,by have h1:=hb.2;have h2:=hd.2;show(ps++ls).length<=_;rw[List.length_append];omega,he.le zFP_0⟩
theorem eat_sta:Eat sSta sta:=(eat_any dn_sta).imp fun _ _ _=>trivial
theorem eat_law:Eat sLw law:=.bd eat_nam fun s a ha=>.bd (eat_exp (by decide)) fun _ b hb=>.bd (Q':=fun _ _=>True) (.see (.rt trivial) (.bd (eat_any dn_trm) fun x c hc=>.rt trivial)) fun l c hc=>.bd (eat_any (dn_lwL FU l)) fun ts d hd=>.bd eat_itg fun n e he=>.bd eat_eol fun _ k hk=>.rt ha.2
theorem eat_lnk:Eat sLnk lnk:=.bd eat_nam fun s a ha=>.bd eat_nam fun f b hb=>.bd eat_num fun n c hc=>.bd eat_eol fun _ k hk=>.rt ⟨ha.2,hb.2⟩
theorem eat_dcl {x:Ste} {d:Nat} (h:sSte x d):Eat (fun y c=>sSte y (d+c)) (dcl x):=by
 have U:∀c,sSte x (d+c):=fun c=>sSte.up _ _ _ h zFP_0;have m1:∀{α:Type} {P:α->Prop} (x:α) (a b:Nat),P x->a<=b->P x:=fun x a b h _=>h;exact
 .acc (by decide) (.bd eat_val fun y c hy=>.rt { U (1+(c+0)) with va:=h.va.snoc (fun _ _ _ h _=>h) hy zFP_0 }) <|
 .acc (by decide) (.bd eat_rsc fun y c hy=>.rt { U (1+(c+0)) with rs:=h.rs.snoc (fun _ _ _ h _=>h) hy zFP_0 }) <|
 .acc (by decide) (.bd eat_sto fun y c hy=>.rt { U (1+(c+0)) with st:=h.st.snoc (fun _ _ _ h _=>h) hy zFP_0 }) <|
 .acc (by decide) (.bd eat_blt fun y c hy=>.rt { U (1+(c+0)) with be:=h.be.snoc (fun _ _ _ h _=>h) hy zFP_0 }) <|
 .acc (by decide) (.bd eat_nmL fun y c hy=>.rt { U (1+(c+0)) with qu:=h.qu.snoc (fun _ _ _ h _=>h) hy zFP_0 }) <|
 .acc (by decide) (.bd eat_nmL fun y c hy=>.rt { U (1+(c+0)) with sm:=h.sm.snoc (fun _ _ _ h _=>h) hy zFP_0 }) <|
 .acc (by decide) (.bd eat_nmL fun y c hy=>.rt { U (1+(c+0)) with ta:=h.ta.snoc (fun _ _ _ h _=>h) hy zFP_0 }) <|
 .acc (by decide) (.bd eat_nmL fun y c hy=>.rt { U (1+(c+0)) with le:=h.le.snoc (fun _ _ _ h _=>h) hy zFP_0 }) <|
 .acc (by decide) (.bd eat_nmL fun y c hy=>.rt { U (1+(c+0)) with co:=h.co.snoc (fun _ _ _ h _=>h) hy zFP_0 }) <|
 .acc (by decide) (.bd eat_rou fun y c hy=>.rt { U (1+(c+0)) with ro:=h.ro.snoc sRou.le hy zFP_0 }) <|
 .acc (by decide) (.bd eat_sta fun y c hy=>.rt { U (1+(c+0)) with ss:=h.ss.snoc (fun _ _ _ h _=>h) hy zFP_0 }) <|
 .acc (by decide) (.bd eat_law fun y c hy=>.rt { U (1+(c+0)) with la:=h.la.snoc (fun _ _ _ h _=>h) hy zFP_0 }) <|
 .fl
theorem sit0_is {s:ByteArray} {d:Nat} (h:s.size<=20000):sSte (sit0 s) d:=⟨h,.nil,.nil,.nil,.nil,.nil,.nil,.nil,.nil,.nil,.nil,.nil,.nil⟩
theorem eat_siL:∀n x k,sSte x k->Eat (fun y d=>sSte y (k+d)) (siL n x)
 | 0,_,_,_=>.fl
 | n+1,x,k,h=>.acc (by decide) (.rt (sSte.up _ _ _ h zFP_0)) (.bd (eat_dcl h) fun y c hy=>(eat_siL n y (k+c) hy).imp fun z d hz=>sSte.up _ _ _ hz zFP_0)
theorem eat_sit:Eat sSte sit:=.bd eat_nmL fun s a ha=>.bd (eat_siL FU (sit0 s) 0 (sit0_is ha)) fun x b hb=>.bd eat_eol fun _ c hc=>.rt (sSte.up _ _ _ hb zFP_0)
theorem eat_prt {x:Mdl} {d:Nat} (h:sMdl x d):Eat (fun y c=>sMdl y (d+c)) (prt x):=by
 have U:∀c,sMdl x (d+c):=fun c=>sMdl.up _ _ _ h zFP_0;exact
 .acc (by decide) (.bd eat_val fun y c hy=>.rt { U (1+(c+0)) with pa:=h.pa.snoc (fun _ _ _ h _=>h) hy zFP_0 }) <|
 .acc (by decide) (.bd eat_lnk fun y c hy=>.rt { U (1+(c+0)) with li:=h.li.snoc (fun _ _ _ h _=>h) hy zFP_0 }) <|
 .acc (by decide) (.bd eat_sit fun y c hy=>.rt { U (1+(c+0)) with si:=h.si.snoc sSte.up hy zFP_0 }) <|
 .fl
theorem eat_mdL:∀n x k,sMdl x k->Eat (fun y d=>sMdl y (k+d)) (mdL n x)
 | 0,_,_,_=>.fl
 | n+1,x,k,h=>.acc (by decide) (.rt (sMdl.up _ _ _ h zFP_0)) (.bd (eat_prt h) fun y c hy=>(eat_mdL n y (k+c) hy).imp fun z d hz=>sMdl.up _ _ _ hz zFP_0)
theorem sRou.z {x:Rou} {d:Nat} (h:sRou x d) (hd:d<=30000):ZRou x:=⟨Nat.le_trans h.nm (by decide),fun f hf=>Nat.le_trans (h.fl f hf) (by decide),Nat.le_trans h.ln zFP_0,h.bo.szL zFP_0⟩
theorem sSte.z {x:Ste} {d:Nat} (h:sSte x d) (hd:d<=30000):ZSte x where
 va:=fun y hy=>Nat.le_trans (h.va.all y hy) (by decide)
 rs:=fun y hy=>Nat.le_trans (h.rs.all y hy) (by decide)
 st:=fun y hy=>Nat.le_trans (h.st.all y hy) (by decide)
 be:=fun y hy=>Nat.le_trans (h.be.all y hy) (by decide)
 qu:=fun y hy=>Nat.le_trans (h.qu.all y hy) (by decide)
 sm:=fun y hy=>Nat.le_trans (h.sm.all y hy) (by decide)
 ta:=fun y hy=>Nat.le_trans (h.ta.all y hy) (by decide)
 le:=fun y hy=>Nat.le_trans (h.le.all y hy) (by decide)
 co:=fun y hy=>Nat.le_trans (h.co.all y hy) (by decide)
 ro:=fun y hy=>(h.ro.all y hy).z hd
 la:=fun y hy=>Nat.le_trans (h.la.all y hy) (by decide)
 nm:=Nat.le_trans h.nm (by decide)
theorem sSte.nw {x:Ste} {d:Nat} (h:sSte x d) (hd:d<=30000):NwSte x where
 nz:=⟨by have:=h.va.len;omega,by have:=h.rs.len;omega,by have:=h.st.len;omega,by have:=h.be.len;omega,by have:=h.ro.len;omega⟩
 nm:=fun l hl=>by
  simp only[names,List.mem_cons,List.mem_nil_iff,or_false] at hl;rcases hl with rfl|rfl|rfl|rfl|rfl|rfl|rfl|rfl|rfl|rfl
  · rw[List.length_map];have:=h.va.len;omega
  · rw[List.length_map];have:=h.rs.len;omega
  · rw[List.length_map];have:=h.st.len;omega
  · rw[List.length_map];have:=h.be.len;omega
  · have:=h.qu.len;omega
  · have:=h.sm.len;omega
  · have:=h.ta.len;omega
  · have:=h.le.len;omega
  · have:=h.co.len;omega
  · rw[List.length_map];have:=h.ro.len;omega
 ss:=by have:=h.ss.len;omega
 la:=by have:=h.la.len;omega
theorem sMdl.fit {x:Mdl} {d:Nat} (h:sMdl x d) (hd:d<=30000):Fit x where
 z:=⟨Nat.le_trans h.nm (by decide),fun y hy=>Nat.le_trans (h.pa.all y hy) (by decide),fun y hy=>(h.si.all y hy).z hd,fun l hl=>⟨Nat.le_trans (h.li.all l hl).1 (by decide),Nat.le_trans (h.li.all l hl).2 (by decide)⟩⟩
 n:=fun y hy=>(h.si.all y hy).nw hd
 c:=fun y hy r hr=>by have:=(((h.si.all y hy).ro.all r hr).bo).1;omega
theorem mdl_size {t u:List Tk} {x:Mdl} (g:Gd t) (hl:t.length<=30000) (h:run mdl t=.ok x u):Fit x:=by
 unfold mdl at h
 cases h1:run (nmB kModel) t with
 | no v=>rw[bd_no h1] at h;cases h
 | ok s t1=>
  obtain⟨g1,d1,e1,q1⟩:=(eat_nmB (s:=kModel) (by decide)).out g h1;rw[bd_ok h1] at h
  cases h2:run eol t1 with
  | no v=>rw[bd_no h2] at h;cases h
  | ok a t2=>
   obtain⟨g2,d2,e2,q2⟩:=eat_eol.out g1 h2;rw[bd_ok h2] at h
   cases h3:run (mdL FU ⟨s,[],[],[]⟩) t2 with
   | no v=>rw[bd_no h3] at h;cases h
   | ok y t3=>
    obtain⟨g3,d3,e3,q3⟩:=(eat_mdL FU ⟨s,[],[],[]⟩ 0 ⟨q1.2,.nil,.nil,.nil⟩).out g2 h3;rw[bd_ok h3] at h;have e:x=y:=by
     cases h4:run eol t3 with
     | no v=>rw[bd_no h4] at h;cases h
     | ok b t4=>
      rw[bd_ok h4] at h
      cases h5:run eot t4 with
      | no v=>rw[bd_no h5] at h;cases h
      | ok c t5=>rw[bd_ok h5,run_rt] at h;cases h;rfl
    subst e;exact q3.fit zFP_0
end Go.Proofs.YtbgodajefaahdaaGreatDoor.Ps
