/-
  Parts of this proof: The contracts of checkTerm, checkLaw and checkLa. The contract of the reference's Names. The contracts of the reference's Routine, Kind a. The reference's lists of the names before. The contract of the law's light.
-/
import Derived.Test.YtbgodajefaahdaaGreatDoorZQClo
import Derived.Test.YtbgodajefaahdaaGreatDoorZQFnd
import Derived.DeepKeys4
set_option linter.unusedVariables false
open Go.Lib (hid)
namespace Go.Proofs.YtbgodajefaahdaaGreatDoor.Md
open Go.RowKit Go.Maps
open Go.Proofs.YtbgodajefaahdaaGreatDoor.Na (bs_inj)
open Go.Proofs.YtbgodajefaahdaaGreatDoor.Sm (nE)
open Go.Proofs.YtbgodajefaahdaaGreatDoor.Ex (Lo Gives)
attribute [local go_sem] cTrm0 cTrm1 cTrm2 cLw0 cLw1 cLw2 cSte12
set_option maxHeartbeats 4000000
def KindC:Prop:=∀(x:Ste) (P:PSte) (s:ByteArray) (w:World),OSte (Lo w.heap.size) w x P->Calls Tryz.prog 202 #[.agg (cSte x P),.string s] w (Gives (.string (kindV x s)) w)
theorem zEZ_0 {p:Prop} (h:p:=by
 clear h1 h2 h3 HE;go_enter Tryz.func195,Tryz.ntmps195;go_wp2_with fail;refine(CC.out _).mono ?_;rintro e v1 ⟨rfl,rfl⟩;go_wp2_with fail;refine(CK.out _ bl).mono ?_;rintro e v2 ⟨rfl,hb2⟩;have q:=FY.out v2 bl;go_wp2_with fail;refine(CB.out _).mono ?_;rintro e v3 ⟨rfl,rfl⟩;go_wp2_with fail;go_ret;exact⟨rfl,bl⟩
 ):p:=h
set_option maxRecDepth 100000 in
theorem checkTerm_any (hK:KindC) (x:Ste) (P:PSte) (t:Trm) (w:World) (hx:OSte (Lo w.heap.size) w x P):Calls Tryz.prog 195 #[.agg (cSte x P),.agg (cTrm t)] w (Gives (.int .i64 (trmE x t)) w):=by
 have HX:=hid hx;have FX:=far2 (w:=w) 53 181 (cSte x P) (cTrm t);obtain⟨n13,hn13⟩:∃n:Nat,13=n:=⟨_,rfl⟩
 have hsz13:∀w,(sizeOf 53).run Tryz.prog w=.ok n13 w:=fun w=>by rw[Tryz.sizeOf53,hn13]
 have HN13:=hid hn13;have ld:=fun W=>((far2 (w:=W) 53 181 (cSte x P) (cTrm t)).out _ (Below.refl _ _)).1.cell.ldN HN13.out;obtain⟨K,hKv⟩:∃v,cntK t.wh=v:=⟨_,rfl⟩
 obtain⟨V,hV⟩:∃v,kindV x t.nm=v:=⟨_,rfl⟩
 obtain⟨r,hr⟩:∃v,btw (-1000) t.co 1000=v:=⟨_,rfl⟩
 have CC:=hid (fun W=>(show Calls Tryz.prog 201 #[.string t.wh] W (Stay (.string K) W) by rw[← hKv];exact counted_any _ W));have CK:=hid (fun W (hW:Below w.heap.size w W)=>(show Calls Tryz.prog 202 #[.agg (cSte x P),.string t.nm] W (Gives (.string V) W) by rw[← hV];exact hK x P t.nm W (HX.out.on hW)));have CB:=hid (fun W=>between_gives hr W);have HE:Hid (trmE x t=if K=nE then 1 else if V=K then (if t.co=0 then 2 else if r then 0 else 2) else 5):=hid (by unfold trmE;rw[hKv,hV,hr]);clear hx hn13 hKv hV hr hK;by_cases h1:K=nE
 · rw[show trmE x t=1 by rw[HE.out,if_pos h1]];have u1:K.toList.isEmpty=true:=by rw[emp_is,h1];decide
   have u2:(K.toList==(⟨#[]⟩:ByteArray).toList)=true:=by rw[tx_eq];exact decide_eq_true h1
   clear h1 HE;go_enter Tryz.func195,Tryz.ntmps195;go_wp2_with fail;refine(CC.out _).mono ?_;rintro e v1 ⟨rfl,rfl⟩;go_wp2_with fail;go_ret;exact⟨rfl,bl⟩
 have u1:K.toList.isEmpty=false:=by rw[emp_is];unfold txB;exact decide_eq_false (fun e=>h1 (bs_inj e))
 have u2:(K.toList==(⟨#[]⟩:ByteArray).toList)=false:=by rw[tx_eq];exact decide_eq_false h1
 by_cases h2:V=K;rotate_left 1
 · rw[show trmE x t=5 by rw[HE.out,if_neg h1,if_neg h2]];have u3:(V.toList==K.toList)=false:=by rw[tx_eq];exact decide_eq_false h2
   have u4:(V.toList != K.toList)=true:=by rw[bne,u3];rfl
   clear h1 h2 HE;go_enter Tryz.func195,Tryz.ntmps195;go_wp2_with fail;refine(CC.out _).mono ?_;rintro e v1 ⟨rfl,rfl⟩;go_wp2_with fail;refine(CK.out _ bl).mono ?_;rintro e v2 ⟨rfl,hb2⟩;go_wp2_with fail;go_ret;exact⟨rfl,bl⟩
 have u3:(V.toList==K.toList)=true:=by rw[tx_eq];exact decide_eq_true h2
 have u4:(V.toList != K.toList)=false:=by rw[bne,u3];rfl
 have FY:Hid (∀W,Below ((w.alloc (.cells (cSte x P) 53)).alloc (.cells (cTrm t) 181)).heap.size ((w.alloc (.cells (cSte x P) 53)).alloc (.cells (cTrm t) 181)) W->W.cell? ⟨w.heap.size+1,0,none⟩=some (.int .i64 t.co)):=hid fun W hb=>(FX.out W hb).2.get (cTrm0 t);by_cases h3:t.co=0
 · rw[show trmE x t=2 by rw[HE.out,if_neg h1,if_pos h2,if_pos h3]];have u5:(t.co==0)=true:=beq_iff_eq.2 h3;clear h1 h2 h3 HE;go_enter Tryz.func195,Tryz.ntmps195;go_wp2_with fail;refine(CC.out _).mono ?_;rintro e v1 ⟨rfl,rfl⟩;go_wp2_with fail;refine(CK.out _ bl).mono ?_;rintro e v2 ⟨rfl,hb2⟩;have q:=FY.out v2 bl;go_wp2_with fail;go_ret;exact⟨rfl,bl⟩
 have u5:(t.co==0)=false:=beq_eq_false_iff_ne.2 h3
 cases r with
 | false=>
  rw[show trmE x t=2 by rw[HE.out,if_neg h1,if_pos h2,if_neg h3];rfl];exact zEZ_0
 | true=>
  rw[show trmE x t=0 by rw[HE.out,if_neg h1,if_pos h2,if_neg h3];rfl];exact zEZ_0
set_option maxRecDepth 100000 in
theorem cloT_any (hK:KindC) (x:Ste) (P:PSte) (t:Trm) (B:Nat) (w:World) (hx:OSte (Lo w.heap.size) w x P) (hB:Box w B 53 (cSte x P)):Calls Tryz.prog 194 #[.agg (cTrm t),.pointer (some ⟨B,0,none⟩)] w (Gives (.int .i64 (trmE x t)) w):=by
 have HX:=hid hx;obtain⟨n13,hn13⟩:∃n:Nat,13=n:=⟨_,rfl⟩
 have hsz13:∀w,(sizeOf 53).run Tryz.prog w=.ok n13 w:=fun w=>by rw[Tryz.sizeOf53,hn13]
 have HN13:=hid hn13;have ld:=(hB.on (show Below w.heap.size w (w.alloc (.cells (cTrm t) 181)) by exact bl)).cell.ldN HN13.out;obtain⟨V,hV⟩:∃v,trmE x t=v:=⟨_,rfl⟩
 have CT:=hid (fun W (hW:Below w.heap.size w W)=>(show Calls Tryz.prog 195 #[.agg (cSte x P),.agg (cTrm t)] W (Gives (.int .i64 V) W) by rw[← hV];exact checkTerm_any hK x P t W (HX.out.on hW)));rw[hV];clear hx hB hn13 hV hK;go_enter Tryz.func194,Tryz.ntmps194;go_wp2_with fail;refine(CT.out _ bl).mono ?_;rintro e v1 ⟨rfl,hb1⟩;go_wp2_with fail;go_ret;exact⟨rfl,bl⟩
theorem terms_any (hK:KindC) (x:Ste) (P:PSte) (w0:World) (hx:OSte (Lo w0.heap.size) w0 x P) {l:List Trm} {p:Option Addr} {m c:Nat} (hl:Rw 3 RTrm (Lo w0.heap.size) w0 l p m) (B:Nat) (W:World) (hW:Below w0.heap.size w0 W) (hB:Box W B 53 (cSte x P)) :
 Calls Tryz.prog 193 #[.slice p m c,.int .i64 ((8:Nat):Int),.func (.func 194) #[] #[.pointer (some ⟨B,0,none⟩)]] W (fun e W2=>e=.returned (.int .i64 (lstE (trmE x) 8 l))/\Below W.heap.size W W2):=by
 have F:Fine w0 (fun(_:Unit) V=>Below W.heap.size W V):=⟨fun _ V h=>hW.trans (h.mono hW.size),fun _ V V2 h h2=>h.trans (h2.mono h.size)⟩
 refine(each_Trm (hid hl) #[] #[.pointer (some ⟨B,0,none⟩)] (fun(_:Unit) V=>Below W.heap.size W V) (hid F) (fun _ t=>(trmE x t,())) 8 (by omega) () (hid fun k s t c V hx2 hm hg hR hI=>?_) W (hid (Below.refl _ _))).mono fun e W2 h=>?_
 · rw[arg1,show c=cTrm t from hR];exact(cloT_any hK x P t B V (hx.on (hW.trans (hI.mono hW.size))) (hB.on hI)).mono fun e W2 h=>⟨h.1,hI.trans (h.2.mono hI.size)⟩
 · obtain⟨h1,h2⟩:=h;rw[eachE_pure] at h1;exact⟨h1,h2⟩
end Go.Proofs.YtbgodajefaahdaaGreatDoor.Md
namespace Go.Proofs.YtbgodajefaahdaaGreatDoor.Md
open Go.RowKit
set_option maxHeartbeats 8000000
theorem OwnL.slice {base:Nat} {w:World} {v:Value} {l:List ByteArray} (ho:OwnL 9 1 RTxt base w v l):∃p m c,v=.slice p m c:=by
 obtain⟨L,h1,h2,h3⟩:=ho;rcases h3.2 with⟨rfl,-⟩|⟨g,cap,cur,rfl,-⟩
 · exact⟨none,0,0,rfl⟩
 · exact⟨_,_,_,rfl⟩
def NamesAt (W:World) (B:Nat) (x:Ste):Prop:=∀j,(h:j<(names x).length)->∃p m c,W.cell? ⟨B,j,none⟩=some (.slice p m c)/\Rw 1 RTxt (Bf B W.heap.size) W ((names x)[j]) p m
structure NzSte (x:Ste):Prop where
 va:x.va.length<1000000
 rs:x.rs.length<1000000
 st:x.st.length<1000000
 be:x.be.length<1000000
 ro:x.ro.length<1000000
end Go.Proofs.YtbgodajefaahdaaGreatDoor.Md
namespace Go.Proofs.YtbgodajefaahdaaGreatDoor.Md
open Go.RowKit
open Go.Proofs.YtbgodajefaahdaaGreatDoor.Ex (block_lt)
set_option maxHeartbeats 4000000
theorem Rw.onB {B:Nat} {w w2:World} {l:List ByteArray} {p:Option Addr} {m:Nat} (hb:Below w.heap.size w w2) (h:Rw 1 RTxt (Bf B w.heap.size) w l p m):Rw 1 RTxt (Bf B w2.heap.size) w2 l p m:=h.map RTxt.map hb.size fun k g hk=>⟨⟨Nat.lt_of_lt_of_le g.1 hb.size,g.2⟩,hb.block k hk⟩
theorem NamesAt.on {w w2:World} {B:Nat} {x:Ste} (hb:Below w.heap.size w w2) (h:NamesAt w B x):NamesAt w2 B x:=fun j hj=>by
 obtain⟨p,m,c,e,hr⟩:=h j hj;exact⟨p,m,c,(hb.cell (p:=⟨B,j,none⟩) (block_lt e)).trans e,hr.onB hb⟩
end Go.Proofs.YtbgodajefaahdaaGreatDoor.Md
namespace Go.Proofs.YtbgodajefaahdaaGreatDoor.Md
open Go.RowKit
set_option maxHeartbeats 4000000
structure Bfo (U:World) (v:Value) (acc:List ByteArray) (W:World):Prop where
 own:OwnL 9 1 RTxt U.heap.size W v acc
 below:Below U.heap.size U W
theorem Bfo.nil (U:World):Bfo U (.slice none 0 0) [] U:=⟨OwnL.nil,Below.refl _ _⟩
theorem Bfo.on {U W W2:World} {v:Value} {acc:List ByteArray} (h:Bfo U v acc W) (hb:Below W.heap.size W W2):Bfo U v acc W2:=⟨h.own.on RTxt.map hb h.below.size,h.below.trans (hb.mono h.below.size)⟩
end Go.Proofs.YtbgodajefaahdaaGreatDoor.Md
namespace Go.Proofs.YtbgodajefaahdaaGreatDoor.Md
open Go.RowKit
set_option maxHeartbeats 8000000
structure NwSte (x:Ste):Prop where
 nz:NzSte x
 nm:∀l∈names x,l.length<2000000
 ss:x.ss.length<2000000
 la:x.la.length<2000000
end Go.Proofs.YtbgodajefaahdaaGreatDoor.Md
