/-
  Parts of this proof: The contracts of checkTerm, checkLaw and checkLa. The contract of the reference's Names. The contracts of the reference's Routine, Kind a. The reference's lists of the names before. The contract of the law's light.
-/
import Derived.Test.YtbgodajefaahdaaGreatDoorYQClo
import Derived.Test.YtbgodajefaahdaaGreatDoorYQOwn
import Derived.DeepKeys4
open Go.Proofs.Tryz renaming prog->ae
open Go renaming World->af
set_option linter.unusedVariables false
open Go.Lib (hid)
namespace Go.Proofs.YtbgodajefaahdaaGreatDoor
namespace Md
open Go.RowKit Go.Maps
open Na (jO)
open Sm (nE)
open Ex (Lo Gives)
attribute [local go_sem] ZW ajv ajw Ec Jb Ga Eh
set_option maxHeartbeats 4000000
def wC:Prop:=∀(x:b_) (P:fe) (s:ByteArray) (w:af),iT (Lo w.heap.size) w x P->Calls ae 202 #[.agg (bX x P),.string s] w (Gives (.string (AP x s)) w)
theorem agv {p:Prop} (h:p:=by
 clear h1 h2 h3 HE;go_enter Tryz.func195,Tryz.ntmps195;go_wp2_with fail;refine(CC.out _).mono ?_;rintro e v1 ⟨rfl,rfl⟩;go_wp2_with fail;refine(CK.out _ bl).mono ?_;rintro e v2 ⟨rfl,hb2⟩;have q:=FY.out v2 bl;go_wp2_with fail;refine(CB.out _).mono ?_;rintro e v3 ⟨rfl,rfl⟩;go_wp2_with fail;go_ret;exact⟨rfl,bl⟩
 ):p:=h
set_option maxRecDepth 100000 in
theorem aj5 (hK:wC) (x:b_) (P:fe) (t:gU) (w:af) (hx:iT (Lo w.heap.size) w x P):Calls ae 195 #[.agg (bX x P),.agg (iw t)] w (Gives (.int .i64 (rO x t)) w):=by
 have HX:=hid hx;have FX:=rq (w:=w) 53 181 (bX x P) (iw t);obtain⟨n13,jM⟩:∃n:Nat,13=n:=⟨_,rfl⟩
 have Cu:∀w,(sizeOf 53).run ae w=.ok n13 w:=fun w=>by rw[Tryz.sizeOf53,jM]
 have DV:=hid jM;have ld:=fun W=>((rq (w:=W) 53 181 (bX x P) (iw t)).out _ (Below.refl _ _)).1.cell.dW DV.out;obtain⟨K,TW⟩:∃v,Gm t.wh=v:=⟨_,rfl⟩
 obtain⟨V,hV⟩:∃v,AP x t.nm=v:=⟨_,rfl⟩
 obtain⟨r,hr⟩:∃v,iX (-1000) t.co 1000=v:=⟨_,rfl⟩
 have CC:=hid (fun W=>(show Calls ae 201 #[.string t.wh] W (qA (.string K) W) by rw[← TW];exact akG _ W));have CK:=hid (fun W (hW:Below w.heap.size w W)=>(show Calls ae 202 #[.agg (bX x P),.string t.nm] W (Gives (.string V) W) by rw[← hV];exact hK x P t.nm W (HX.out.on hW)));have CB:=hid (fun W=>Eb hr W);have HE:Hid (rO x t=if K=nE then 1 else if V=K then (if t.co=0 then 2 else if r then 0 else 2) else 5):=hid (by unfold rO;rw[TW,hV,hr]);clear hx jM TW hV hr hK;by_cases h1:K=nE
 · rw[show rO x t=1 by rw[HE.out,if_pos h1]];have u1:K.toList.isEmpty=true:=by rw[Gu,h1];decide
   have u2:(K.toList==(⟨#[]⟩:ByteArray).toList)=true:=by rw[Hf];exact decide_eq_true h1
   clear h1 HE;go_enter Tryz.func195,Tryz.ntmps195;go_wp2_with fail;refine(CC.out _).mono ?_;rintro e v1 ⟨rfl,rfl⟩;go_wp2_with fail;go_ret;exact⟨rfl,bl⟩
 have u1:K.toList.isEmpty=false:=by rw[Gu];unfold dF;exact decide_eq_false (fun e=>h1 (jO e))
 have u2:(K.toList==(⟨#[]⟩:ByteArray).toList)=false:=by rw[Hf];exact decide_eq_false h1
 by_cases h2:V=K;rotate_left 1
 · rw[show rO x t=5 by rw[HE.out,if_neg h1,if_neg h2]];have u3:(V.toList==K.toList)=false:=by rw[Hf];exact decide_eq_false h2
   have u4:(V.toList != K.toList)=true:=by rw[bne,u3];rfl
   clear h1 h2 HE;go_enter Tryz.func195,Tryz.ntmps195;go_wp2_with fail;refine(CC.out _).mono ?_;rintro e v1 ⟨rfl,rfl⟩;go_wp2_with fail;refine(CK.out _ bl).mono ?_;rintro e v2 ⟨rfl,hb2⟩;go_wp2_with fail;go_ret;exact⟨rfl,bl⟩
 have u3:(V.toList==K.toList)=true:=by rw[Hf];exact decide_eq_true h2
 have u4:(V.toList != K.toList)=false:=by rw[bne,u3];rfl
 have FY:Hid (∀W,Below ((w.alloc (.cells (bX x P) 53)).alloc (.cells (iw t) 181)).heap.size ((w.alloc (.cells (bX x P) 53)).alloc (.cells (iw t) 181)) W->W.cell? ⟨w.heap.size+1,0,none⟩=some (.int .i64 t.co)):=hid fun W hb=>(FX.out W hb).2.get (ZW t);by_cases h3:t.co=0
 · rw[show rO x t=2 by rw[HE.out,if_neg h1,if_pos h2,if_pos h3]];have u5:(t.co==0)=true:=beq_iff_eq.2 h3;clear h1 h2 h3 HE;go_enter Tryz.func195,Tryz.ntmps195;go_wp2_with fail;refine(CC.out _).mono ?_;rintro e v1 ⟨rfl,rfl⟩;go_wp2_with fail;refine(CK.out _ bl).mono ?_;rintro e v2 ⟨rfl,hb2⟩;have q:=FY.out v2 bl;go_wp2_with fail;go_ret;exact⟨rfl,bl⟩
 have u5:(t.co==0)=false:=beq_eq_false_iff_ne.2 h3
 cases r with
 | false=>
  rw[show rO x t=2 by rw[HE.out,if_neg h1,if_pos h2,if_neg h3];rfl];exact agv
 | true=>
  rw[show rO x t=0 by rw[HE.out,if_neg h1,if_pos h2,if_neg h3];rfl];exact agv
set_option maxRecDepth 100000 in
theorem akn (hK:wC) (x:b_) (P:fe) (t:gU) (B:Nat) (w:af) (hx:iT (Lo w.heap.size) w x P) (hB:bT w B 53 (bX x P)):Calls ae 194 #[.agg (iw t),.pointer (some ⟨B,0,none⟩)] w (Gives (.int .i64 (rO x t)) w):=by
 have HX:=hid hx;obtain⟨n13,jM⟩:∃n:Nat,13=n:=⟨_,rfl⟩
 have Cu:∀w,(sizeOf 53).run ae w=.ok n13 w:=fun w=>by rw[Tryz.sizeOf53,jM]
 have DV:=hid jM;have ld:=(hB.on (show Below w.heap.size w (w.alloc (.cells (iw t) 181)) by exact bl)).cell.dW DV.out;obtain⟨V,hV⟩:∃v,rO x t=v:=⟨_,rfl⟩
 have CT:=hid (fun W (hW:Below w.heap.size w W)=>(show Calls ae 195 #[.agg (bX x P),.agg (iw t)] W (Gives (.int .i64 V) W) by rw[← hV];exact aj5 hK x P t W (HX.out.on hW)));rw[hV];clear hx hB jM hV hK;go_enter Tryz.func194,Tryz.ntmps194;go_wp2_with fail;refine(CT.out _ bl).mono ?_;rintro e v1 ⟨rfl,hb1⟩;go_wp2_with fail;go_ret;exact⟨rfl,bl⟩
theorem ar8 (hK:wC) (x:b_) (P:fe) (w0:af) (hx:iT (Lo w0.heap.size) w0 x P) {l:List gU} {p:Option Addr} {m c:Nat} (hl:Rw 3 jw (Lo w0.heap.size) w0 l p m) (B:Nat) (W:af) (hW:Below w0.heap.size w0 W) (hB:bT W B 53 (bX x P)) :
 Calls ae 193 #[.slice p m c,.int .i64 ((8:Nat):Int),.func (.func 194) #[] #[.pointer (some ⟨B,0,none⟩)]] W (fun e W2=>e=.returned (.int .i64 (AY (rO x) 8 l))/\Below W.heap.size W W2):=by
 have F:qR w0 (fun(_:Unit) V=>Below W.heap.size W V):=⟨fun _ V h=>hW.trans (h.mono hW.size),fun _ V V2 h h2=>h.trans (h2.mono h.size)⟩
 refine(alp (hid hl) #[] #[.pointer (some ⟨B,0,none⟩)] (fun(_:Unit) V=>Below W.heap.size W V) (hid F) (fun _ t=>(rO x t,())) 8 (by omega) () (hid fun k s t c V hx2 hm hg hR hI=>?_) W (hid (Below.refl _ _))).mono fun e W2 h=>?_
 · rw[F3,show c=iw t from hR];exact(akn hK x P t B V (hx.on (hW.trans (hI.mono hW.size))) (hB.on hI)).mono fun e W2 h=>⟨h.1,hI.trans (h.2.mono hI.size)⟩
 · obtain⟨h1,h2⟩:=h;rw[aaH] at h1;exact⟨h1,h2⟩
end Md
namespace Md
open Go.RowKit
set_option maxHeartbeats 8000000
theorem mI.slice {base:Nat} {w:af} {v:Value} {l:List ByteArray} (ho:mI 9 1 dP base w v l):∃p m c,v=.slice p m c:=by
 obtain⟨L,h1,h2,h3⟩:=ho;rcases h3.2 with⟨rfl,-⟩|⟨g,cap,cur,rfl,-⟩
 · exact⟨none,0,0,rfl⟩
 · exact⟨_,_,_,rfl⟩
def RH (W:af) (B:Nat) (x:b_):Prop:=∀j,(h:j<(names x).length)->∃p m c,W.cell? ⟨B,j,none⟩=some (.slice p m c)/\Rw 1 dP (Bf B W.heap.size) W ((names x)[j]) p m
structure ah9 (x:b_):Prop where
 va:x.va.length<1000000
 rs:x.rs.length<1000000
 st:x.st.length<1000000
 be:x.be.length<1000000
 ro:x.ro.length<1000000
end Md
namespace Md
open Go.RowKit
open Ex (block_lt)
set_option maxHeartbeats 4000000
theorem Rw.onB {B:Nat} {w w2:af} {l:List ByteArray} {p:Option Addr} {m:Nat} (hb:Below w.heap.size w w2) (h:Rw 1 dP (Bf B w.heap.size) w l p m):Rw 1 dP (Bf B w2.heap.size) w2 l p m:=h.map dP.map hb.size fun k g hk=>⟨⟨Nat.lt_of_lt_of_le g.1 hb.size,g.2⟩,hb.block k hk⟩
theorem RH.on {w w2:af} {B:Nat} {x:b_} (hb:Below w.heap.size w w2) (h:RH w B x):RH w2 B x:=fun j hj=>by
 obtain⟨p,m,c,e,hr⟩:=h j hj;exact⟨p,m,c,(hb.cell (p:=⟨B,j,none⟩) (block_lt e)).trans e,hr.onB hb⟩
end Md
namespace Md
open Go.RowKit
set_option maxHeartbeats 4000000
structure Io (U:af) (v:Value) (acc:List ByteArray) (W:af):Prop where
 own:mI 9 1 dP U.heap.size W v acc
 below:Below U.heap.size U W
theorem Io.nil (U:af):Io U (.slice none 0 0) [] U:=⟨mI.nil,Below.refl _ _⟩
theorem Io.on {U W W2:af} {v:Value} {acc:List ByteArray} (h:Io U v acc W) (hb:Below W.heap.size W W2):Io U v acc W2:=⟨h.own.on dP.map hb h.below.size,h.below.trans (hb.mono h.below.size)⟩
end Md
namespace Md
open Go.RowKit
set_option maxHeartbeats 8000000
structure RI (x:b_):Prop where
 nz:ah9 x
 nm:∀l∈names x,l.length<2000000
 ss:x.ss.length<2000000
 la:x.la.length<2000000
end Md
end Go.Proofs.YtbgodajefaahdaaGreatDoor
