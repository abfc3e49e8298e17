/-
  Parts of this proof: The contracts of the closures that declare a nam. The contracts of Same and of the library's Equal. The contracts of Same. The contracts of sameFault and checkFault. The contract of checkResource.
-/
import Derived.Test.YtkpekhpgdajabaaGreatDoorYTRou
import Derived.Test.YtkpekhpgdajabaaGreatDoorYECheckN
import Derived.Test.YtkpekhpgdajabaaGreatDoorYQSch
open Go.Proofs.Tryz
open Go.Proofs.Tryz renaming prog->ae
open Option renaming some->U,none->V
open Go renaming loadCellsFrom->af,Calls->ag,World->ai,Addr->ak
open Go.Lib renaming hid->X
open List renaming getElem?_eq_getElem->ah
open Go.RowKit renaming Below->aj
set_option linter.unusedVariables false
set_option maxRecDepth 100000
set_option maxHeartbeats 8000000
open Go.Lib (hid)
namespace Go.Proofs.YtkpekhpgdajabaaGreatDoor
namespace Md
open Go.RowKit Go.Maps
open Sm (dN rU gP ow)
open Ex (Gives block_lt)
attribute [local go_sem] Kh J_ Kc Po Pq Ka
theorem zo (w:ai) (t:TypeId) (r1 r2:Int):∀i,(h:i<[r1,r2].length)->(w.alloc (.cells #[.int .i64 r1,.int .i64 r2] t)).cell? ⟨w.heap.size,i,V⟩=U (.int .i64 [r1,r2][i]):=by
 intro i h;rw[World.cell?_alloc_mark]
 match i,h with
 | 0,_=>rfl
 | 1,_=>rfl
theorem zQ (a b:Int):gP [a,b]=dN a b:=by unfold gP gP gP;rw[rU]
theorem wD {b:Nat} {w w2:ai} (h:But b w w2) {g:Nat} {o:Nat} {v:Value} (hc:w.cell? ⟨g,o,V⟩=U v) (hg:g≠b):w2.cell? ⟨g,o,V⟩=U v:=
 (World.cell?_of_block (w:=w) (a:=⟨g,o,V⟩) (h.block g (block_lt hc) hg)).trans hc
theorem jW {p:Prop} (h:p:=by assumption):p:=h
theorem FT {p:Prop} (h:p:=by((repeat (first|(with_reducible exact But.refl _ _)|(with_reducible assumption)|(with_reducible apply But.alloc)|(with_reducible apply But.drewN)|(with_reducible apply But.drew)|(with_reducible refine But.trans ?_ jW)|(with_reducible refine But.then ?_ jW)));done)):p:=h
theorem agG (x:jP) (b B1:Nat) (acc:List ByteArray) (w:ai) (hS:il b acc w) (hn:acc.length<=100000) (hx:x.nm.size<=9223372036854775807) (hv:w.cell? ⟨B1,0,V⟩=U (.map (U b))) (hB:B1≠b)
 (tv:Int) (CT:Hid (∀W,But b w W->ag ae 136 #[.agg (lQ x)] W (Gives (.int .i64 tv) W))) :
 ag ae 135 #[.agg (lQ x),.pointer (U ⟨B1,0,V⟩)] w (Step b (dN (jh acc x.nm) tv,iY acc x.nm) w):=by
 have HS:=X hS;have nk:=X hS.lt;have HV:=X hv;obtain⟨yj,h2⟩:∃a,iY acc x.nm=a:=⟨_,rfl⟩
 obtain⟨v,hd⟩:∃v,jh acc x.nm=v:=⟨_,rfl⟩
 rw[h2,hd];have CD:=X (fun W (hW:il b acc W)=>AJ hd h2 W hW hn hx);obtain⟨kk,hkk⟩:∃n:Nat,3=n:=⟨_,rfl⟩
 have hsz:∀w,(sizeOf 205).run ae w=.ok kk w:=fun w=>by rw[sizeOf205,hkk]
 have HKK:=X hkk;have FK:Hid (∀W,But b (w.alloc (.cells (lQ x) 205)) W->W.cell? ⟨B1,0,V⟩=U (.map (U b))/\W.cell? ⟨w.heap.size,0,V⟩=U (.string x.nm)/\(af ⟨w.heap.size,0,V⟩ 0 kk #[]).run ae W=.ok (lQ x) W):=X fun W hb=>by
  have q:=bU.new.but hb (show w.heap.size≠b by have:=nk.out;omega);exact⟨wD hb ((World.cell?_alloc_lt _ _ _ (block_lt HV.out)).trans HV.out) hB,q.get (Kh x),q.cell.fZ HKK.out⟩
 clear hS hd h2 hv hkk;go_enter func135,ntmps135;go_wp2_with fail;go_region_held3 (fun W=>W.cell? ⟨B1,0,V⟩=U (.map (U b))/\W.cell? ⟨w.heap.size,0,V⟩=U (.string x.nm)/\(af ⟨w.heap.size,0,V⟩ 0 kk #[]).run ae W=.ok (lQ x) W) (first|(refine FK.out _ ?_;((repeat (first|(with_reducible exact But.refl _ _)|(with_reducible assumption)|(with_reducible apply But.alloc)|(with_reducible apply But.drewN)|(with_reducible apply But.drew)|(with_reducible refine But.trans ?_ jW)|(with_reducible refine But.then ?_ jW)));done))|(go_keep;done)) (first
  | (have t:=hb3;go_at_call 52;refine(ow [v,tv] _ 2 2 _ rfl bT (X (zo _ _ _ _))).mono ?_;rintro e w9 ⟨rfl,rfl⟩)
  | (have t:=hb2;go_at_call 136;refine(CT.out _ FT).mono ?_;rintro e w3 ⟨rfl,hb3⟩)
  | (go_at_call 89;refine(CD.out _ (HS.out.on bl)).mono ?_;rintro e w2 ⟨rfl,hs2,hb2⟩))
 all_goals
  have HB3:=X hb3;go_wp2_with fail;go_ret;exact⟨by rw[← zQ];rfl,hs2.on bl,by((repeat (first|(with_reducible exact But.refl _ _)|(with_reducible assumption)|(with_reducible apply But.alloc)|(with_reducible apply But.drewN)|(with_reducible apply But.drew)|(with_reducible refine But.trans ?_ jW)|(with_reducible refine But.then ?_ jW)));done)⟩
theorem agA (x:jO) (b B1:Nat) (acc:List ByteArray) (w:ai) (hS:il b acc w) (hn:acc.length<=100000) (hx:x.nm.size<=9223372036854775807) (hv:w.cell? ⟨B1,0,V⟩=U (.map (U b))) (hB:B1≠b)
 (tv:Int) (CT:Hid (∀W,But b w W->ag ae 139 #[.agg (lN x)] W (Gives (.int .i64 tv) W))) :
 ag ae 138 #[.agg (lN x),.pointer (U ⟨B1,0,V⟩)] w (Step b (dN (jh acc x.nm) tv,iY acc x.nm) w):=by
 have HS:=X hS;have nk:=X hS.lt;have HV:=X hv;obtain⟨yj,h2⟩:∃a,iY acc x.nm=a:=⟨_,rfl⟩
 obtain⟨v,hd⟩:∃v,jh acc x.nm=v:=⟨_,rfl⟩
 rw[h2,hd];have CD:=X (fun W (hW:il b acc W)=>AJ hd h2 W hW hn hx);obtain⟨kk,hkk⟩:∃n:Nat,3=n:=⟨_,rfl⟩
 have hsz:∀w,(sizeOf 209).run ae w=.ok kk w:=fun w=>by rw[sizeOf209,hkk]
 have HKK:=X hkk;have FK:Hid (∀W,But b (w.alloc (.cells (lN x) 209)) W->W.cell? ⟨B1,0,V⟩=U (.map (U b))/\W.cell? ⟨w.heap.size,0,V⟩=U (.string x.nm)/\(af ⟨w.heap.size,0,V⟩ 0 kk #[]).run ae W=.ok (lN x) W):=X fun W hb=>by
  have q:=bU.new.but hb (show w.heap.size≠b by have:=nk.out;omega);exact⟨wD hb ((World.cell?_alloc_lt _ _ _ (block_lt HV.out)).trans HV.out) hB,q.get (J_ x),q.cell.fZ HKK.out⟩
 clear hS hd h2 hv hkk;go_enter func138,ntmps138;go_wp2_with fail;go_region_held3 (fun W=>W.cell? ⟨B1,0,V⟩=U (.map (U b))/\W.cell? ⟨w.heap.size,0,V⟩=U (.string x.nm)/\(af ⟨w.heap.size,0,V⟩ 0 kk #[]).run ae W=.ok (lN x) W) (first|(refine FK.out _ ?_;((repeat (first|(with_reducible exact But.refl _ _)|(with_reducible assumption)|(with_reducible apply But.alloc)|(with_reducible apply But.drewN)|(with_reducible apply But.drew)|(with_reducible refine But.trans ?_ jW)|(with_reducible refine But.then ?_ jW)));done))|(go_keep;done)) (first
  | (have t:=hb3;go_at_call 52;refine(ow [v,tv] _ 2 2 _ rfl bT (X (zo _ _ _ _))).mono ?_;rintro e w9 ⟨rfl,rfl⟩)
  | (have t:=hb2;go_at_call 139;refine(CT.out _ FT).mono ?_;rintro e w3 ⟨rfl,hb3⟩)
  | (go_at_call 89;refine(CD.out _ (HS.out.on bl)).mono ?_;rintro e w2 ⟨rfl,hs2,hb2⟩))
 all_goals
  have HB3:=X hb3;go_wp2_with fail;go_ret;exact⟨by rw[← zQ];rfl,hs2.on bl,by((repeat (first|(with_reducible exact But.refl _ _)|(with_reducible assumption)|(with_reducible apply But.alloc)|(with_reducible apply But.drewN)|(with_reducible apply But.drew)|(with_reducible refine But.trans ?_ jW)|(with_reducible refine But.then ?_ jW)));done)⟩
theorem agE (x:fo) (P:p_) (b B1:Nat) (acc:List ByteArray) (w:ai) (hS:il b acc w) (hn:acc.length<=100000) (hx:x.nm.size<=9223372036854775807) (hv:w.cell? ⟨B1,0,V⟩=U (.map (U b))) (hB:B1≠b)
 (tv:Int) (CT:Hid (∀W,But b w W->ag ae 143 #[.agg (jQ x P)] W (Gives (.int .i64 tv) W))) :
 ag ae 142 #[.agg (jQ x P),.pointer (U ⟨B1,0,V⟩)] w (Step b (dN (jh acc x.nm) tv,iY acc x.nm) w):=by
 have HS:=X hS;have nk:=X hS.lt;have HV:=X hv;obtain⟨yj,h2⟩:∃a,iY acc x.nm=a:=⟨_,rfl⟩
 obtain⟨v,hd⟩:∃v,jh acc x.nm=v:=⟨_,rfl⟩
 rw[h2,hd];have CD:=X (fun W (hW:il b acc W)=>AJ hd h2 W hW hn hx);obtain⟨kk,hkk⟩:∃n:Nat,4=n:=⟨_,rfl⟩
 have hsz:∀w,(sizeOf 215).run ae w=.ok kk w:=fun w=>by rw[sizeOf215,hkk]
 have HKK:=X hkk;have FK:Hid (∀W,But b (w.alloc (.cells (jQ x P) 215)) W->W.cell? ⟨B1,0,V⟩=U (.map (U b))/\W.cell? ⟨w.heap.size,0,V⟩=U (.string x.nm)/\(af ⟨w.heap.size,0,V⟩ 0 kk #[]).run ae W=.ok (jQ x P) W):=X fun W hb=>by
  have q:=bU.new.but hb (show w.heap.size≠b by have:=nk.out;omega);exact⟨wD hb ((World.cell?_alloc_lt _ _ _ (block_lt HV.out)).trans HV.out) hB,q.get (Kc x P),q.cell.fZ HKK.out⟩
 clear hS hd h2 hv hkk;go_enter func142,ntmps142;go_wp2_with fail;go_region_held3 (fun W=>W.cell? ⟨B1,0,V⟩=U (.map (U b))/\W.cell? ⟨w.heap.size,0,V⟩=U (.string x.nm)/\(af ⟨w.heap.size,0,V⟩ 0 kk #[]).run ae W=.ok (jQ x P) W) (first|(refine FK.out _ ?_;((repeat (first|(with_reducible exact But.refl _ _)|(with_reducible assumption)|(with_reducible apply But.alloc)|(with_reducible apply But.drewN)|(with_reducible apply But.drew)|(with_reducible refine But.trans ?_ jW)|(with_reducible refine But.then ?_ jW)));done))|(go_keep;done)) (first
  | (have t:=hb3;go_at_call 52;refine(ow [v,tv] _ 2 2 _ rfl bT (X (zo _ _ _ _))).mono ?_;rintro e w9 ⟨rfl,rfl⟩)
  | (have t:=hb2;go_at_call 143;refine(CT.out _ FT).mono ?_;rintro e w3 ⟨rfl,hb3⟩)
  | (go_at_call 89;refine(CD.out _ (HS.out.on bl)).mono ?_;rintro e w2 ⟨rfl,hs2,hb2⟩))
 all_goals
  have HB3:=X hb3;go_wp2_with fail;go_ret;exact⟨by rw[← zQ];rfl,hs2.on bl,by((repeat (first|(with_reducible exact But.refl _ _)|(with_reducible assumption)|(with_reducible apply But.alloc)|(with_reducible apply But.drewN)|(with_reducible apply But.drew)|(with_reducible refine But.trans ?_ jW)|(with_reducible refine But.then ?_ jW)));done)⟩
theorem agF (x:cz) (P:eP) (b B1:Nat) (acc:List ByteArray) (w:ai) (hS:il b acc w) (hn:acc.length<=100000) (hx:x.nm.size<=9223372036854775807) (hv:w.cell? ⟨B1,0,V⟩=U (.map (U b))) (hB:B1≠b)
 (tv:Int) (CT:Hid (∀W,But b w W->ag ae 94 #[.agg (b_ x P)] W (Gives (.int .i64 tv) W))) :
 ag ae 93 #[.agg (b_ x P),.pointer (U ⟨B1,0,V⟩)] w (Step b (dN (jh acc x.nm) tv,iY acc x.nm) w):=by
 have HS:=X hS;have nk:=X hS.lt;have HV:=X hv;obtain⟨yj,h2⟩:∃a,iY acc x.nm=a:=⟨_,rfl⟩
 obtain⟨v,hd⟩:∃v,jh acc x.nm=v:=⟨_,rfl⟩
 rw[h2,hd];have CD:=X (fun W (hW:il b acc W)=>AJ hd h2 W hW hn hx);obtain⟨kk,hkk⟩:∃n:Nat,13=n:=⟨_,rfl⟩
 have hsz:∀w,(sizeOf 54).run ae w=.ok kk w:=fun w=>by rw[sizeOf54,hkk]
 have HKK:=X hkk;have FK:Hid (∀W,But b (w.alloc (.cells (b_ x P) 54)) W->W.cell? ⟨B1,0,V⟩=U (.map (U b))/\W.cell? ⟨w.heap.size,0,V⟩=U (.string x.nm)/\(af ⟨w.heap.size,0,V⟩ 0 kk #[]).run ae W=.ok (b_ x P) W):=X fun W hb=>by
  have q:=bU.new.but hb (show w.heap.size≠b by have:=nk.out;omega);exact⟨wD hb ((World.cell?_alloc_lt _ _ _ (block_lt HV.out)).trans HV.out) hB,q.get (Pq x P),q.cell.fZ HKK.out⟩
 clear hS hd h2 hv hkk;go_enter func93,ntmps93;go_wp2_with fail;go_region_held3 (fun W=>W.cell? ⟨B1,0,V⟩=U (.map (U b))/\W.cell? ⟨w.heap.size,0,V⟩=U (.string x.nm)/\(af ⟨w.heap.size,0,V⟩ 0 kk #[]).run ae W=.ok (b_ x P) W) (first|(refine FK.out _ ?_;((repeat (first|(with_reducible exact But.refl _ _)|(with_reducible assumption)|(with_reducible apply But.alloc)|(with_reducible apply But.drewN)|(with_reducible apply But.drew)|(with_reducible refine But.trans ?_ jW)|(with_reducible refine But.then ?_ jW)));done))|(go_keep;done)) (first
  | (have t:=hb3;go_at_call 52;refine(ow [v,tv] _ 2 2 _ rfl bT (X (zo _ _ _ _))).mono ?_;rintro e w9 ⟨rfl,rfl⟩)
  | (have t:=hb2;go_at_call 94;refine(CT.out _ FT).mono ?_;rintro e w3 ⟨rfl,hb3⟩)
  | (go_at_call 89;refine(CD.out _ (HS.out.on bl)).mono ?_;rintro e w2 ⟨rfl,hs2,hb2⟩))
 all_goals
  have HB3:=X hb3;go_wp2_with fail;go_ret;exact⟨by rw[← zQ];rfl,hs2.on bl,by((repeat (first|(with_reducible exact But.refl _ _)|(with_reducible assumption)|(with_reducible apply But.alloc)|(with_reducible apply But.drewN)|(with_reducible apply But.drew)|(with_reducible refine But.trans ?_ jW)|(with_reducible refine But.then ?_ jW)));done)⟩
theorem agD (x:dm) (P:ed) (b B1:Nat) (acc:List ByteArray) (w:ai) (hS:il b acc w) (hn:acc.length<=100000) (hx:x.nm.size<=9223372036854775807) (hv:w.cell? ⟨B1,0,V⟩=U (.map (U b))) (hB:B1≠b) (B2:Nat) (sp:Option ak) (sm sc:Nat) (hu:w.cell? ⟨B2,6,V⟩=U (.slice sp sm sc)) (hB2:B2≠b)
 (tv:Int) (CT:Hid (∀W,But b w W->ag ae 133 #[.agg (dV x P),.slice sp sm sc] W (Gives (.int .i64 tv) W))) :
 ag ae 132 #[.agg (dV x P),.pointer (U ⟨B1,0,V⟩),.pointer (U ⟨B2,0,V⟩)] w (Step b (dN (jh acc x.nm) tv,iY acc x.nm) w):=by
 have HS:=X hS;have nk:=X hS.lt;have HV:=X hv;have HU:=X hu;obtain⟨yj,h2⟩:∃a,iY acc x.nm=a:=⟨_,rfl⟩
 obtain⟨v,hd⟩:∃v,jh acc x.nm=v:=⟨_,rfl⟩
 rw[h2,hd];have CD:=X (fun W (hW:il b acc W)=>AJ hd h2 W hW hn hx);obtain⟨kk,hkk⟩:∃n:Nat,17=n:=⟨_,rfl⟩
 have hsz:∀w,(sizeOf 199).run ae w=.ok kk w:=fun w=>by rw[sizeOf199,hkk]
 have HKK:=X hkk;have FK:Hid (∀W,But b (w.alloc (.cells (dV x P) 199)) W->W.cell? ⟨B1,0,V⟩=U (.map (U b))/\W.cell? ⟨w.heap.size,0,V⟩=U (.string x.nm)/\(af ⟨w.heap.size,0,V⟩ 0 kk #[]).run ae W=.ok (dV x P) W/\W.cell? ⟨B2,6,V⟩=U (.slice sp sm sc)):=X fun W hb=>by
  have q:=bU.new.but hb (show w.heap.size≠b by have:=nk.out;omega);exact⟨wD hb ((World.cell?_alloc_lt _ _ _ (block_lt HV.out)).trans HV.out) hB,q.get (Po x P),q.cell.fZ HKK.out,wD hb ((World.cell?_alloc_lt _ _ _ (block_lt HU.out)).trans HU.out) hB2⟩
 clear hS hd h2 hv hkk hu;go_enter func132,ntmps132;go_wp2_with fail;go_region_held3 (fun W=>W.cell? ⟨B1,0,V⟩=U (.map (U b))/\W.cell? ⟨w.heap.size,0,V⟩=U (.string x.nm)/\(af ⟨w.heap.size,0,V⟩ 0 kk #[]).run ae W=.ok (dV x P) W/\W.cell? ⟨B2,6,V⟩=U (.slice sp sm sc)) (first|(refine FK.out _ ?_;((repeat (first|(with_reducible exact But.refl _ _)|(with_reducible assumption)|(with_reducible apply But.alloc)|(with_reducible apply But.drewN)|(with_reducible apply But.drew)|(with_reducible refine But.trans ?_ jW)|(with_reducible refine But.then ?_ jW)));done))|(go_keep;done)) (first
  | (have t:=hb3;go_at_call 52;refine(ow [v,tv] _ 2 2 _ rfl bT (X (zo _ _ _ _))).mono ?_;rintro e w9 ⟨rfl,rfl⟩)
  | (have t:=hb2;go_at_call 133;refine(CT.out _ FT).mono ?_;rintro e w3 ⟨rfl,hb3⟩)
  | (go_at_call 89;refine(CD.out _ (HS.out.on bl)).mono ?_;rintro e w2 ⟨rfl,hs2,hb2⟩))
 all_goals
  have HB3:=X hb3;go_wp2_with fail;go_ret;exact⟨by rw[← zQ];rfl,hs2.on bl,by((repeat (first|(with_reducible exact But.refl _ _)|(with_reducible assumption)|(with_reducible apply But.alloc)|(with_reducible apply But.drewN)|(with_reducible apply But.drew)|(with_reducible refine But.trans ?_ jW)|(with_reducible refine But.then ?_ jW)));done)⟩
theorem agC (x:Lw) (P:rD) (b B1:Nat) (acc:List ByteArray) (w:ai) (hS:il b acc w) (hn:acc.length<=100000) (hx:x.nm.size<=9223372036854775807) (hv:w.cell? ⟨B1,0,V⟩=U (.map (U b))) (hB:B1≠b) (B2:Nat) (d:Array Value) (hds:d.size=13) (hu:bU w B2 54 d) (hB2:B2≠b)
 (tv:Int) (CT:Hid (∀W,But b w W->ag ae 183 #[.agg d,.agg (jm x P)] W (Gives (.int .i64 tv) W))) :
 ag ae 182 #[.agg (jm x P),.pointer (U ⟨B1,0,V⟩),.pointer (U ⟨B2,0,V⟩)] w (Step b (dN (jh acc x.nm) tv,iY acc x.nm) w):=by
 have HS:=X hS;have nk:=X hS.lt;have HV:=X hv;have HU:=X hu;obtain⟨k2,hk2⟩:∃n:Nat,13=n:=⟨_,rfl⟩
 have hsz2:∀w,(sizeOf 54).run ae w=.ok k2 w:=fun w=>by rw[sizeOf54,hk2]
 have Gj:=X (show d.size=k2 from hds.trans hk2);obtain⟨yj,h2⟩:∃a,iY acc x.nm=a:=⟨_,rfl⟩
 obtain⟨v,hd⟩:∃v,jh acc x.nm=v:=⟨_,rfl⟩
 rw[h2,hd];have CD:=X (fun W (hW:il b acc W)=>AJ hd h2 W hW hn hx);obtain⟨kk,hkk⟩:∃n:Nat,3=n:=⟨_,rfl⟩
 have hsz:∀w,(sizeOf 241).run ae w=.ok kk w:=fun w=>by rw[sizeOf241,hkk]
 have HKK:=X hkk;have FK:Hid (∀W,But b (w.alloc (.cells (jm x P) 241)) W->W.cell? ⟨B1,0,V⟩=U (.map (U b))/\W.cell? ⟨w.heap.size,0,V⟩=U (.string x.nm)/\(af ⟨w.heap.size,0,V⟩ 0 kk #[]).run ae W=.ok (jm x P) W/\(af ⟨B2,0,V⟩ 0 k2 #[]).run ae W=.ok d W):=X fun W hb=>by
  have q:=bU.new.but hb (show w.heap.size≠b by have:=nk.out;omega);exact⟨wD hb ((World.cell?_alloc_lt _ _ _ (block_lt HV.out)).trans HV.out) hB,q.get (Ka x P),q.cell.fZ HKK.out,((HU.out.on (show aj w.heap.size w _ by exact bl)).but hb hB2).cell.fZ Gj.out⟩
 clear hS hd h2 hv hkk hu hk2 hds;go_enter func182,ntmps182;go_wp2_with fail;go_region_held3 (fun W=>W.cell? ⟨B1,0,V⟩=U (.map (U b))/\W.cell? ⟨w.heap.size,0,V⟩=U (.string x.nm)/\(af ⟨w.heap.size,0,V⟩ 0 kk #[]).run ae W=.ok (jm x P) W/\(af ⟨B2,0,V⟩ 0 k2 #[]).run ae W=.ok d W) (first|(refine FK.out _ ?_;((repeat (first|(with_reducible exact But.refl _ _)|(with_reducible assumption)|(with_reducible apply But.alloc)|(with_reducible apply But.drewN)|(with_reducible apply But.drew)|(with_reducible refine But.trans ?_ jW)|(with_reducible refine But.then ?_ jW)));done))|(go_keep;done)) (first
  | (have t:=hb3;go_at_call 52;refine(ow [v,tv] _ 2 2 _ rfl bT (X (zo _ _ _ _))).mono ?_;rintro e w9 ⟨rfl,rfl⟩)
  | (have t:=hb2;go_at_call 183;refine(CT.out _ FT).mono ?_;rintro e w3 ⟨rfl,hb3⟩)
  | (go_at_call 89;refine(CD.out _ (HS.out.on bl)).mono ?_;rintro e w2 ⟨rfl,hs2,hb2⟩))
 all_goals
  have HB3:=X hb3;go_wp2_with fail;go_ret;exact⟨by rw[← zQ];rfl,hs2.on bl,by((repeat (first|(with_reducible exact But.refl _ _)|(with_reducible assumption)|(with_reducible apply But.alloc)|(with_reducible apply But.drewN)|(with_reducible apply But.drew)|(with_reducible refine But.trans ?_ jW)|(with_reducible refine But.then ?_ jW)));done)⟩
end Md
namespace Ex
open Go.RowKit
open Na (bs)
theorem bX.any {G:Nat->Prop} {w:ai} {o o2 n n2:Int} {s s2:ByteArray} {l:List Ex} {p:Option ak} {m:Nat} (h:bX G w (.mk o s n l) p m):bX G w (.mk o2 s2 n2 l) p m:=nI.2 (nI.1 h)
theorem abx {o o2 n n2:Int} {s s2:ByteArray} {l l2:List Ex}:same (.mk o s n l) (.mk o2 s2 n2 l2)=(decide (o=o2)&&decide (bs s=bs s2)&&decide (n=n2)&&jU l l2):=by rw[same]
theorem Sy {l l2:List Ex} {k:Nat} {x y:Ex} (hx:l[k]?=U x) (hy:l2[k]?=U y) (h:same x y=false):jU l l2=false:=by
 cases g:jU l l2 with
 | false=>rfl
 | true=>
  have:=IP g;subst this;rw[hx] at hy;cases hy
  rw[SE] at h;cases h
theorem Sw {l l2:List Ex} (h:¬l.length=l2.length):jU l l2=false:=by
 cases g:jU l l2 with
 | false=>rfl
 | true=>exact absurd (amH g) h
theorem take_same {l l2:List Ex} {k:Nat} {x y:Ex} (hx:l[k]?=U x) (hy:l2[k]?=U y) (h:same x y=true) (g:l.take k=l2.take k):l.take (k+1)=l2.take (k+1):=by rw[take_one hx,take_one hy,same_eq h,g]
abbrev nE:ByteArray:=⟨#[]⟩
theorem ah0 (l:List Ex) (ih:∀x∈l,∀(y:Ex) (p:Option ak) (m c:Nat) (p2:Option ak) (m2 c2:Nat) (w:ai),In w x p m->In w y p2 m2->ag ae 8 #[.agg #[.int .i64 x.o,.string x.s,.int .i64 x.n,.slice p m c],.agg #[.int .i64 y.o,.string y.s,.int .i64 y.n,.slice p2 m2 c2]] w (Gives (.bool (same x y)) w))
 (l2:List Ex) (p:Option ak) (m c:Nat) (p2:Option ak) (m2 c2:Nat) (w:ai) (h:In w (.mk 0 nE 0 l) p m) (h2:In w (.mk 0 nE 0 l2) p2 m2) :
 ag ae 18 #[.slice p m c,.slice p2 m2 c2,.func (.func 8) #[] #[]] w (Gives (.bool (jU l l2)) w):=by
 have HH:=X h;have vX:=X h2;have HI:=X ih;obtain⟨hl,hm⟩:=h.len;obtain⟨hl2,hm2⟩:=h2.len;have HL:=X hl;have HL2:=X hl2;clear ih h h2 hl hl2;by_cases hmm:m=m2
 · subst hmm;go_enter func18,ntmps18;go_wp2_with fail;go_loopw [17] (fun i wr=>∃k:Nat,k<=m/\Hid (l.take k=l2.take k)/\i=.int .i64 (k:Nat)/\Hid (aj w.heap.size w wr)) (fun i _=>m-(intOf i).toNat)
   case atStart=>exact⟨0,Nat.zero_le _,X rfl,rfl,X bl⟩
   case round=>
    obtain⟨k,hk,HT0,rfl,HW⟩:=hrel;have k0:(0:Int)<=(k:Int):=by omega
    rcases Nat.lt_or_ge k m with h|h
    · have k1:(k:Int)<(m:Int):=by omega
      obtain⟨b,o',rfl,-,hG,hcell⟩:=HH.out.kids bT;have hkl:k<l.length:=by rw[HL.out];omega
      obtain⟨q,j,c',hc4,eH⟩:=hcell.out k hkl;have hmem:l[k]∈l:=List.getElem_mem hkl;have hgx:l[k]?=U l[k]:=ah hkl;obtain⟨x,hx⟩:∃x,l[k]=x:=⟨_,rfl⟩
      rw[hx] at hc4 eH hmem hgx;obtain⟨e0,e1,e2,e3⟩:=hc4.on HW.out hG;have mO:=X eH;have HX:=X hgx;have HM:=X hmem;clear hcell hc4 eH hx hmem hgx hkl;obtain⟨b',o'',rfl,-,hG',hcell'⟩:=vX.out.kids bT;have om:k<l2.length:=by rw[HL2.out];omega
      obtain⟨q',j',c'',wL,wM⟩:=hcell'.out k om;have wN:l2[k]∈l2:=List.getElem_mem om;have hgx2:l2[k]?=U l2[k]:=ah om;obtain⟨y,hy⟩:∃y,l2[k]=y:=⟨_,rfl⟩
      rw[hy] at wL wM wN hgx2;obtain⟨f0,f1,f2,f3⟩:=wL.on HW.out hG';have JG:=X wM;have iG:=X hgx2;have U4:=X wN;clear hcell' wL wM hy wN hgx2 om;have HS:=X (Sy HX.out iG.out);have HE:=X (take_same HX.out iG.out);have HI1:=X (fun W=>HI.out x HM.out y q j c' q' j' c'' W);obtain⟨E,hE⟩:∃E,same x y=E:=⟨_,rfl⟩
      rw[hE] at HI1 HS HE;clear hE;have hb1:b'<wr.heap.size:=Nat.lt_of_lt_of_le hG' HW.out.size;go_wp2_with fail;refine(HI1.out _ (mO.out.on qG) (JG.out.on qG)).mono ?_;rintro e w2 ⟨rfl,hb2⟩;have HW2:Hid (aj w.heap.size w w2):=X qG;clear hb2 HI1
      cases E with
      | true=>
       have HR:=X (HE.out rfl HT0.out);exact adM
      | false=>
       have HR:=X (HS.out rfl);go_wp2_with fail;go_ret;exact⟨by rw[HR.out];rfl,HW2.out⟩
    · exact adW
 · rw[Sw NY];have t1:((m:Int)==(m2:Int))=false:=beq_eq_false_iff_ne.2 bT;have t2:((m:Int) != (m2:Int))=true:=bne_iff_ne.2 bT;clear hmm;go_enter func18,ntmps18;exact dX
theorem Ui {p:Prop} (h:p:=by
 go_enter func8,ntmps8;exact dX
 ):p:=h
theorem xC (e:Ex):∀(y:Ex) (p:Option ak) (m c:Nat) (p2:Option ak) (m2 c2:Nat) (w:ai),In w e p m->In w y p2 m2->ag ae 8 #[.agg #[.int .i64 e.o,.string e.s,.int .i64 e.n,.slice p m c],.agg #[.int .i64 y.o,.string y.s,.int .i64 y.n,.slice p2 m2 c2]] w (Gives (.bool (same e y)) w):=by
 induction e using Ex.ind with
 | h o s n l ih=>
  intro y p m c p2 m2 c2 w h h2;obtain⟨o2,s2,n2,l2⟩:=y;have HE:=X fun W=>ah0 l ih l2 p m c p2 m2 c2 W;have HH:=X (h.any (o2:=0) (n2:=0) (s2:=nE));have vX:=X (h2.any (o2:=0) (n2:=0) (s2:=nE));rw[abx];simp only[Ex.o,Ex.s,Ex.n];clear h h2 ih;by_cases t1:o=o2
  · by_cases t2:bs s=bs s2
    · by_cases t3:n=n2
      · rw[decide_eq_true t1,decide_eq_true t2,decide_eq_true t3,Bool.true_and,Bool.true_and,Bool.true_and];have u1:(o==o2)=true:=beq_iff_eq.2 t1;have u2:=rH t2;have u3:(n==n2)=true:=beq_iff_eq.2 t3;clear t1 t2 t3;obtain⟨E,hE⟩:∃E,jU l l2=E:=⟨_,rfl⟩
        rw[hE] at HE ⊢;clear hE;go_enter func8,ntmps8;go_wp2_with fail;refine(HE.out _ (HH.out.on bl) (vX.out.on bl)).mono ?_;exact D8
      · rw[decide_eq_true t1,decide_eq_true t2,decide_eq_false t3,Bool.true_and,Bool.true_and,Bool.false_and];have u1:(o==o2)=true:=beq_iff_eq.2 t1;have u2:=rH t2;have u3:(n==n2)=false:=beq_eq_false_iff_ne.2 t3;clear t1 t2 t3;exact Ui
    · rw[decide_eq_true t1,decide_eq_false t2,Bool.true_and,Bool.false_and,Bool.false_and];have u1:(o==o2)=true:=beq_iff_eq.2 t1;have u2:=vk t2;clear t1 t2;exact Ui
  · rw[decide_eq_false t1,Bool.false_and,Bool.false_and,Bool.false_and];have u1:(o==o2)=false:=beq_eq_false_iff_ne.2 t1;clear t1;exact Ui
end Ex
namespace Sm
open Go.RowKit
open Ex (Ex)
attribute [local go_sem] cs0 cs1 cs2 uW uX uY uZ u_ ve vg uI uJ uK uM uP uQ uR uS uT uU uV
theorem X4:∀(n:Nat) (l m:List Int),n<=l.length->n<=m.length->(Di.qO (fun i=>l.getD i 0) (fun i=>m.getD i 0) n=true↔l.take n=m.take n)
 | 0,l,m,_,_=>by simp[Di.qO]
 | n+1,l,m,h1,h2=>by
  have ih:=X4 n l m bT bT;rw[Di.qO,Bool.and_eq_true,ih,ab6 (show n<l.length by omega),ab6 (show n<m.length by omega)];have e1:l.getD n 0=l[n]:=by simp[List.getD,ah (show n<l.length by omega)]
  have e2:m.getD n 0=m[n]:=by simp[List.getD,ah (show n<m.length by omega)]
  rw[beq_iff_eq,e1,e2];constructor
  · rintro⟨a,b⟩;rw[a,b]
  · intro h;have:=List.append_inj h za;exact⟨this.1,by simpa using this.2⟩
where ab6 {l:List Int} {k:Nat} (h:k<l.length):l.take (k+1)=l.take k++[l[k]]:=Ex.aob h
theorem XZ (l m:List Int):Di.mR l.length m.length (fun i=>l.getD i 0) (fun i=>m.getD i 0)=decide (l=m):=by
 unfold Di.mR;by_cases h:l.length=m.length
 · rw[beq_iff_eq.2 h,Bool.true_and];have:=X4 l.length l m (Nat.le_refl _) bT;rw[List.take_length,h,List.take_length] at this;rw[h];by_cases e:l=m
   · rw[decide_eq_true e];exact this.2 e
   · rw[decide_eq_false e]
     cases hh:Di.qO (fun i=>l.getD i 0) (fun i=>m.getD i 0) m.length with
     | false=>rfl
     | true=>exact absurd (this.1 hh) e
 · rw[beq_eq_false_iff_ne.2 h,Bool.false_and,decide_eq_false (fun e=>h (by rw[e]))]
theorem MG (x y:Dt):Di.qy x.op x.a x.b x.n x.vs.length x.ws.length (fun i=>x.vs.getD i 0) (fun i=>x.ws.getD i 0) y.op y.a y.b y.n y.vs.length y.ws.length (fun i=>y.vs.getD i 0) (fun i=>y.ws.getD i 0)=lD x y:=by
 unfold Di.qy lD;rw[XZ,XZ];rfl
theorem aol {w:ai} (x y:St) (P Q:Pl):Hid (∀W,aj ((w.alloc (.cells (cs x P) 62)).alloc (.cells (cs y Q) 62)).heap.size ((w.alloc (.cells (cs x P) 62)).alloc (.cells (cs y Q) 62)) W->dB W w.heap.size x P/\dB W (w.heap.size+1) y Q):=X fun W hb=>by
 have h1:dB (w.alloc (.cells (cs x P) 62)) w.heap.size x P:=zm;have h2:=zm (w:=w.alloc (.cells (cs x P) 62)) (x:=y) (P:=Q);have e:(w.alloc (.cells (cs x P) 62)).heap.size=w.heap.size+1:=by simp
 rw[e] at h2;exact⟨(h1.on bl).on hb,h2.on hb⟩
end Sm
namespace Md
open Go.RowKit Go.Maps
open Na (bs Strs fst)
open Sm (Dt lD zD nE qm MG Ints dN ow)
open Ex (Lo Gives)
abbrev dv (d:Dt) (vp:Option ak) (vm vc:Nat) (wp:Option ak) (wm wc:Nat):Value:=.agg #[.int .i64 d.op,.int .i64 d.a,.int .i64 d.b,.int .i64 d.n,.slice vp vm vc,.slice wp wm wc]
theorem Xp {G H:Nat->Prop} {w:ai} (d e:Dt) (vp:Option ak) (vm vc:Nat) (wp:Option ak) (wm wc:Nat) (TH:Option ak) (vm' vc':Nat) (wp':Option ak) (wm' wc':Nat) (h1:Ints G w d.vs vp vm) (h2:Ints G w d.ws wp wm) (h3:Ints H w e.vs TH vm') (h4:Ints H w e.ws wp' wm'):ag ae 158 #[dv d vp vm vc wp wm wc,dv e TH vm' vc' wp' wm' wc'] w (Gives (.bool (lD d e)) w):=by
 have h:=Di.xC d.op d.a d.b d.n vp d.vs.length vc wp d.ws.length wc _ _ e.op e.a e.b e.n TH e.vs.length vc' wp' e.ws.length wc' _ _ w h1.row h2.row h3.row h4.row;rw[MG,h1.1,h2.1,h3.1,h4.1] at h;exact h
theorem WJ {G:Nat->Prop} {w:ai} (d:Dt) (vp:Option ak) (vm vc:Nat) (wp:Option ak) (wm wc:Nat) (h1:Ints G w d.vs vp vm) (h2:Ints G w d.ws wp wm):ag ae 111 #[dv d vp vm vc wp wm wc] w (Gives (.int .i64 (qm d)) w):=by
 have h:=Di.nZ d.op d.a d.b d.n vp d.vs.length vc wp d.ws.length wc _ _ w h1.row h2.row;rw[show qm d=Di.Cm d.op d.a d.b d.n d.vs.length d.ws.length (fun i=>d.vs.getD i 0) (fun i=>d.ws.getD i 0) from rfl];rw[h1.1,h2.1] at h ⊢;exact h
def jE (x:dm) (P:ed):Array Value:=#[.string x.fs,.int .i64 x.up.op,.int .i64 x.up.a,.int .i64 x.up.b,.int .i64 x.up.n,.slice P.tY P.tX P.xR,.slice P.t_ P.tZ P.xS,.int .i64 x.dn.op,.int .i64 x.dn.a,.int .i64 x.dn.b,.int .i64 x.dn.n,.slice P.sM P.sK P.wH,.slice P.sP P.sN P.wI]
theorem aij (x:dm) (P:ed):∀r v,(jE x P)[r]?=U v->(dV x P)[4+r]?=U v:=by
 intro r v h;have hr:r<13:=(Array.getElem?_eq_some_iff.1 h).1
 match r,hr with
 | 0,_=>exact h
 | 1,_=>exact h
 | 2,_=>exact h
 | 3,_=>exact h
 | 4,_=>exact h
 | 5,_=>exact h
 | 6,_=>exact h
 | 7,_=>exact h
 | 8,_=>exact h
 | 9,_=>exact h
 | 10,_=>exact h
 | 11,_=>exact h
 | 12,_=>exact h
theorem At.G9 {w:ai} {g o:Nat} {x:dm} {P:ed} (h:At w g o (dV x P)):At w g (o+4) (jE x P):=fun r v hv=>by
 rw[show o+4+r=o+(4+r) by omega];exact h _ _ (aij x P r v hv)
theorem KZ (x:dm) (P:ed):(jE x P)[0]?=U (.string x.fs):=rfl
theorem Yh (x:dm) (P:ed):(jE x P)[1]?=U (.int .i64 x.up.op):=rfl
theorem Yi (x:dm) (P:ed):(jE x P)[2]?=U (.int .i64 x.up.a):=rfl
theorem Yj (x:dm) (P:ed):(jE x P)[3]?=U (.int .i64 x.up.b):=rfl
theorem Yk (x:dm) (P:ed):(jE x P)[4]?=U (.int .i64 x.up.n):=rfl
theorem Yl (x:dm) (P:ed):(jE x P)[5]?=U (.slice P.tY P.tX P.xR):=rfl
theorem Ym (x:dm) (P:ed):(jE x P)[6]?=U (.slice P.t_ P.tZ P.xS):=rfl
theorem K9 (x:dm) (P:ed):(jE x P)[7]?=U (.int .i64 x.dn.op):=rfl
theorem K_ (x:dm) (P:ed):(jE x P)[8]?=U (.int .i64 x.dn.a):=rfl
theorem La (x:dm) (P:ed):(jE x P)[9]?=U (.int .i64 x.dn.b):=rfl
theorem K6 (x:dm) (P:ed):(jE x P)[10]?=U (.int .i64 x.dn.n):=rfl
theorem K7 (x:dm) (P:ed):(jE x P)[11]?=U (.slice P.sM P.sK P.wH):=rfl
theorem K8 (x:dm) (P:ed):(jE x P)[12]?=U (.slice P.sP P.sN P.wI):=rfl
attribute [local go_sem] KZ Yh Yi Yj Yk Yl Ym K9 K_ La K6 K7 K8
structure Ar (w:ai) (x:dm) (P:ed):Prop where
 uv:Ints (Lo w.heap.size) w x.up.vs P.tY P.tX
 uw:Ints (Lo w.heap.size) w x.up.ws P.t_ P.tZ
 dv:Ints (Lo w.heap.size) w x.dn.vs P.sM P.sK
 dw:Ints (Lo w.heap.size) w x.dn.ws P.sP P.sN
theorem Ar.on {w w2:ai} (hb:aj w.heap.size w w2) {x:dm} {P:ed} (h:Ar w x P):Ar w2 x P:=⟨Ints.on hb h.uv,Ints.on hb h.uw,Ints.on hb h.dv,Ints.on hb h.dw⟩
theorem ny.G9 {w:ai} {x:dm} {P:ed} (h:ny (Lo w.heap.size) w x P):Ar w x P:=⟨h.upv,h.upw,h.Xl,h.Xm⟩
def Jq:dm:=⟨nE,0,[],0,nE,zD,zD⟩
def Uu:ed:=⟨V,0,0,V,0,0,V,0,0,V,0,0,V,0,0⟩
theorem aoE (w:ai):Ar w Jq Uu:=⟨⟨rfl,by decide,.inl rfl⟩,⟨rfl,by decide,.inl rfl⟩,⟨rfl,by decide,.inl rfl⟩,⟨rfl,by decide,.inl rfl⟩⟩
theorem amG (x y:dm) (P Q:ed) (w:ai) (hx:Ar w x P) (hy:Ar w y Q):ag ae 202 #[.agg (jE x P),.agg (jE y Q)] w (Gives (.bool (G_ x y)) w):=by
 have HX:=X hx;have HY:=X hy;have FX:=wJ (w:=w) 197 197 (jE x P) (jE y Q);clear hx hy;obtain⟨b1,h1⟩:∃b,gD x.fs y.fs=b:=⟨_,rfl⟩
 obtain⟨b2,h2⟩:∃b,lD x.up y.up=b:=⟨_,rfl⟩
 obtain⟨b3,h3⟩:∃b,lD x.dn y.dn=b:=⟨_,rfl⟩
 have hf:G_ x y=(b1&&b2&&b3):=by unfold G_;rw[h1,h2,h3]
 rw[hf];have u1:(x.fs.toList==y.fs.toList)=b1:=by rw[Bu];exact h1
 have C1:=X (fun W (hW:aj w.heap.size w W)=>(show ag ae 158 #[.agg #[.int .i64 x.up.op,.int .i64 x.up.a,.int .i64 x.up.b,.int .i64 x.up.n,.slice P.tY P.tX P.xR,.slice P.t_ P.tZ P.xS],.agg #[.int .i64 y.up.op,.int .i64 y.up.a,.int .i64 y.up.b,.int .i64 y.up.n,.slice Q.tY Q.tX Q.xR,.slice Q.t_ Q.tZ Q.xS]] W (Gives (.bool b2) W) by rw[← h2];exact Xp x.up y.up _ _ _ _ _ _ _ _ _ _ _ _ (HX.out.on hW).uv (HX.out.on hW).uw (HY.out.on hW).uv (HY.out.on hW).uw));have C2:=X (fun W (hW:aj w.heap.size w W)=>(show ag ae 158 #[.agg #[.int .i64 x.dn.op,.int .i64 x.dn.a,.int .i64 x.dn.b,.int .i64 x.dn.n,.slice P.sM P.sK P.wH,.slice P.sP P.sN P.wI],.agg #[.int .i64 y.dn.op,.int .i64 y.dn.a,.int .i64 y.dn.b,.int .i64 y.dn.n,.slice Q.sM Q.sK Q.wH,.slice Q.sP Q.sN Q.wI]] W (Gives (.bool b3) W) by rw[← h3];exact Xp x.dn y.dn _ _ _ _ _ _ _ _ _ _ _ _ (HX.out.on hW).dv (HX.out.on hW).dw (HY.out.on hW).dv (HY.out.on hW).dw));clear h1 h2 h3 hf
 cases b1 with
 | false=>
  go_enter func202,ntmps202;exact dX
 | true=>
  go_enter func202,ntmps202;go_wp2_with fail;refine(C1.out _ bl).mono ?_;rintro e w2 ⟨rfl,hb2⟩
  cases b2 with
  | false=>
   exact dX
  | true=>
   have q:=FX.out w2 bl;have p7:=q.1.get (K9 x P);have p8:=q.1.get (K_ x P);have p9:=q.1.get (La x P);have o8:=q.1.get (K6 x P);have Ff:=q.1.get (K7 x P);have IG:=q.1.get (K8 x P);have r7:=q.2.get (K9 y Q);have r8:=q.2.get (K_ y Q);have r9:=q.2.get (La y Q);have xA:=q.2.get (K6 y Q);have Fq:=q.2.get (K7 y Q);have r12:=q.2.get (K8 y Q);clear q;go_wp2_with fail;refine(C2.out _ bl).mono ?_;rintro e w3 ⟨rfl,hb3⟩;go_wp2_with fail;go_ret;exact⟨by simp,bl⟩
theorem EE (s:ByteArray):s.toList.isEmpty=gD s nE:=by
 rw[Lib.toList_data]
 show(bs s).isEmpty=_
 unfold gD
 cases bs s with
 | nil=>rfl
 | cons x t=>rfl
theorem aiy (x:dm):G_ x Jq=(gD x.fs nE&&lD x.up zD&&lD x.dn zD):=rfl
theorem af3 (x:dm) (P:ed) (sm:List ByteArray) (p:Option ak) (m c:Nat) (w:ai) (hx:Ar w x P) (hs:Strs w p m sm):ag ae 176 #[.agg (jE x P),.slice p m c] w (Gives (.int .i64 (zB x sm)) w):=by
 have HX:=X hx;have HS:=X hs;have FX:=far (w:=w) 197 (jE x P);clear hx hs;obtain⟨b1,h1⟩:∃b,gD x.fs nE=b:=⟨_,rfl⟩
 obtain⟨z,hz⟩:∃b,G_ x Jq=b:=⟨_,rfl⟩
 obtain⟨kk,hkk⟩:∃n:Nat,13=n:=⟨_,rfl⟩
 have hsz:∀w,(sizeOf 197).run ae w=.ok kk w:=fun w=>by rw[sizeOf197,hkk]
 have HKK:=X hkk;have ld:=fun W=>run_loadCellsFrom_new (P:=ae) W 197 (jE x P) kk hkk;have CZ:=X (fun W (hW:aj w.heap.size w W)=>(show ag ae 202 #[.agg (jE x P),.agg (jE Jq Uu)] W (Gives (.bool z) W) by rw[← hz];exact amG x Jq P Uu W (HX.out.on hW) (aoE W)));have u1:x.fs.toList.isEmpty=b1:=by rw[EE];exact h1
 have HE:Hid (zB x sm=if z then 0 else if b1 then 1 else if fst sm x.fs<0 then 5 else dN (qm x.up) (qm x.dn)):=X (by
  unfold zB;rw[← hz,aiy];have hb:(bs x.fs=[])=(b1=true):=by rw[← h1];unfold gD;rw[decide_eq_true_eq]
  simp only[hb];cases b1
  · simp[h1]
  · simp only[h1,if_true,Bool.true_and,Bool.and_eq_true])
 have HB:=X (fun W (hW:aj w.heap.size w W)=>Na.Yc p m c sm x.fs W (HS.out.on hW));have CU:=X (fun W (hW:aj w.heap.size w W)=>WJ x.up _ _ P.xR _ _ P.xS (HX.out.on hW).uv (HX.out.on hW).uw);have CN:=X (fun W (hW:aj w.heap.size w W)=>WJ x.dn _ _ P.wH _ _ P.wI (HX.out.on hW).dv (HX.out.on hW).dw);clear hkk h1 hz
 cases z with
 | true=>
  rw[show zB x sm=0 from HE.out];go_enter func176,ntmps176;go_wp2_with fail;refine(CZ.out _ bl).mono ?_;exact D8
 | false=>
  cases b1 with
  | true=>
   rw[show zB x sm=1 from HE.out];go_enter func176,ntmps176;go_wp2_with fail;refine(CZ.out _ bl).mono ?_;rintro e w2 ⟨rfl,hb2⟩;have q:=FX.out w2 bl;have p0:=q.get (KZ x P);clear q;exact dX
  | false=>
   obtain⟨k,hk⟩:∃k,fst sm x.fs=k:=⟨_,rfl⟩
   rw[hk] at HB HE;clear hk;by_cases hk0:k<0
   · rw[show zB x sm=5 by rw[HE.out];exact if_pos hk0];have d0:=decide_eq_true hk0;go_enter func176,ntmps176;go_wp2_with fail;refine(CZ.out _ bl).mono ?_;rintro e w2 ⟨rfl,hb2⟩;have q:=FX.out w2 bl;have p0:=q.get (KZ x P);clear q;go_wp2_with fail;refine(HB.out _ bl).mono ?_;rintro e w3 ⟨rfl,rfl⟩;exact dX
   · rw[show zB x sm=dN (qm x.up) (qm x.dn) by rw[HE.out];exact if_neg hk0];have d0:=decide_eq_false hk0;obtain⟨v1,hv1⟩:∃v,qm x.up=v:=⟨_,rfl⟩
     obtain⟨v2,hv2⟩:∃v,qm x.dn=v:=⟨_,rfl⟩
     rw[hv1] at CU ⊢;rw[hv2] at CN ⊢;have FY:Hid (∀W,aj (w.alloc (.cells (jE x P) 197)).heap.size (w.alloc (.cells (jE x P) 197)) W->W.cell? ⟨w.heap.size,1,V⟩=U (.int .i64 x.up.op)/\W.cell? ⟨w.heap.size,2,V⟩=U (.int .i64 x.up.a)/\W.cell? ⟨w.heap.size,3,V⟩=U (.int .i64 x.up.b)/\W.cell? ⟨w.heap.size,4,V⟩=U (.int .i64 x.up.n)/\W.cell? ⟨w.heap.size,5,V⟩=U (.slice P.tY P.tX P.xR)/\W.cell? ⟨w.heap.size,6,V⟩=U (.slice P.t_ P.tZ P.xS)/\W.cell? ⟨w.heap.size,7,V⟩=U (.int .i64 x.dn.op)/\W.cell? ⟨w.heap.size,8,V⟩=U (.int .i64 x.dn.a)/\W.cell? ⟨w.heap.size,9,V⟩=U (.int .i64 x.dn.b)/\W.cell? ⟨w.heap.size,10,V⟩=U (.int .i64 x.dn.n)/\W.cell? ⟨w.heap.size,11,V⟩=U (.slice P.sM P.sK P.wH)/\W.cell? ⟨w.heap.size,12,V⟩=U (.slice P.sP P.sN P.wI)):=X fun W hb=>by
      have q:=FX.out W hb;exact⟨q.get (Yh x P),q.get (Yi x P),q.get (Yj x P),q.get (Yk x P),q.get (Yl x P),q.get (Ym x P),q.get (K9 x P),q.get (K_ x P),q.get (La x P),q.get (K6 x P),q.get (K7 x P),q.get (K8 x P)⟩
     clear hv1 hv2;go_enter func176,ntmps176;go_wp2_with fail;refine(CZ.out _ bl).mono ?_;rintro e w2 ⟨rfl,hb2⟩;have q:=FX.out w2 bl;have p0:=q.get (KZ x P);clear q;go_wp2_with fail;refine(HB.out _ bl).mono ?_;rintro e w3 ⟨rfl,rfl⟩;go_wp2_with fail;go_region_held3 (fun W=>W.cell? ⟨w.heap.size,1,V⟩=U (.int .i64 x.up.op)/\W.cell? ⟨w.heap.size,2,V⟩=U (.int .i64 x.up.a)/\W.cell? ⟨w.heap.size,3,V⟩=U (.int .i64 x.up.b)/\W.cell? ⟨w.heap.size,4,V⟩=U (.int .i64 x.up.n)/\W.cell? ⟨w.heap.size,5,V⟩=U (.slice P.tY P.tX P.xR)/\W.cell? ⟨w.heap.size,6,V⟩=U (.slice P.t_ P.tZ P.xS)/\W.cell? ⟨w.heap.size,7,V⟩=U (.int .i64 x.dn.op)/\W.cell? ⟨w.heap.size,8,V⟩=U (.int .i64 x.dn.a)/\W.cell? ⟨w.heap.size,9,V⟩=U (.int .i64 x.dn.b)/\W.cell? ⟨w.heap.size,10,V⟩=U (.int .i64 x.dn.n)/\W.cell? ⟨w.heap.size,11,V⟩=U (.slice P.sM P.sK P.wH)/\W.cell? ⟨w.heap.size,12,V⟩=U (.slice P.sP P.sN P.wI)) (first|(refine FY.out _ ?_;exact bl;done)|(go_keep;done)) (first
      | (have t:=hb5;go_at_call 52;refine(ow [v1,v2] _ 2 2 _ rfl bT (X (zo _ _ _ _))).mono ?_;rintro e w9 ⟨rfl,rfl⟩)
      | (have t:=hb4;go_at_call 111;refine(CN.out _ bl).mono ?_;rintro e w5 ⟨rfl,hb5⟩)
      | (go_at_call 111;refine(CU.out _ bl).mono ?_;rintro e w4 ⟨rfl,hb4⟩))
     all_goals
      have yf:=X hb5;go_wp2_with fail;go_ret;exact⟨by rw[← zQ];rfl,bl⟩
end Md
namespace Md
open Go.RowKit Go.Maps
open Na (Strs)
open Sm (dN ow)
open Ex (Lo Gives)
attribute [local go_sem] afk VM VO
theorem af8 (x:dm) (P:ed) (sm:List ByteArray) (p:Option ak) (m c:Nat) (w:ai) (hx:ny (Lo w.heap.size) w x P) (hs:Strs w p m sm):ag ae 133 #[.agg (dV x P),.slice p m c] w (Gives (.int .i64 (Dp sm x)) w):=by
 have HX:=X hx;have HS:=X hs;have FX:=far (w:=w) 199 (dV x P);obtain⟨u,hu⟩:∃b,Hy x.un=b:=⟨_,rfl⟩
 have CI:=X (fun W=>(show ag ae 174 #[.int .i64 x.un] W (oI (.bool u) W) by rw[← hu];exact ZE _ W))
 cases u with
 | false=>
  rw[show Dp sm x=2 by unfold Dp;rw[hu];rfl];clear hx hs hu;go_enter func133,ntmps133;go_wp2_with fail;refine(CI.out _).mono ?_;rintro e w2 ⟨rfl,rfl⟩;exact dX
 | true=>
  obtain⟨v1,hv1⟩:∃v,tL x.sh x.cy=v:=⟨_,rfl⟩
  obtain⟨v2,hv2⟩:∃v,zB x sm=v:=⟨_,rfl⟩
  rw[show Dp sm x=dN v1 v2 by unfold Dp;rw[hu,hv1,hv2];rfl];have CS:=X (fun W (hW:aj w.heap.size w W)=>(show ag ae 175 #[.slice P.Dz P.Dy P.Fu,.int .i64 x.cy] W (Gives (.int .i64 v1) W) by rw[← hv1];exact af_ _ _ _ _ _ W (HX.out.sh.on iM.map hW)));have CF:=X (fun W (hW:aj w.heap.size w W)=>(show ag ae 176 #[.agg (jE x P),.slice p m c] W (Gives (.int .i64 v2) W) by rw[← hv2];exact af3 x P sm p m c W (HX.out.G9.on hW) (HS.out.on hW)));have FK:Hid (∀W,aj (w.alloc (.cells (dV x P) 199)).heap.size (w.alloc (.cells (dV x P) 199)) W->W.cell? ⟨w.heap.size,2,V⟩=U (.slice P.Dz P.Dy P.Fu)/\W.cell? ⟨w.heap.size,3,V⟩=U (.int .i64 x.cy)/\W.cell? ⟨w.heap.size,4,V⟩=U (.string x.fs)/\W.cell? ⟨w.heap.size,5,V⟩=U (.int .i64 x.up.op)/\W.cell? ⟨w.heap.size,6,V⟩=U (.int .i64 x.up.a)/\W.cell? ⟨w.heap.size,7,V⟩=U (.int .i64 x.up.b)/\W.cell? ⟨w.heap.size,8,V⟩=U (.int .i64 x.up.n)/\W.cell? ⟨w.heap.size,9,V⟩=U (.slice P.tY P.tX P.xR)/\W.cell? ⟨w.heap.size,10,V⟩=U (.slice P.t_ P.tZ P.xS)/\W.cell? ⟨w.heap.size,11,V⟩=U (.int .i64 x.dn.op)/\W.cell? ⟨w.heap.size,12,V⟩=U (.int .i64 x.dn.a)/\W.cell? ⟨w.heap.size,13,V⟩=U (.int .i64 x.dn.b)/\W.cell? ⟨w.heap.size,14,V⟩=U (.int .i64 x.dn.n)/\W.cell? ⟨w.heap.size,15,V⟩=U (.slice P.sM P.sK P.wH)/\W.cell? ⟨w.heap.size,16,V⟩=U (.slice P.sP P.sN P.wI)):=X fun W hb=>by
   have q:=FX.out W hb;exact⟨q.get (VM x P),q.get (VO x P),q.get (afs x P),q.get (aft x P),q.get (afu x P),q.get (afv x P),q.get (afw x P),q.get (afx x P),q.get (afl x P),q.get (afm x P),q.get (afn x P),q.get (afo x P),q.get (afp x P),q.get (afq x P),q.get (afr x P)⟩
  clear hx hs hu hv1 hv2;go_enter func133,ntmps133;go_wp2_with fail;refine(CI.out _).mono ?_;rintro e w2 ⟨rfl,rfl⟩;go_wp2_with fail;go_region_held3 (fun W=>W.cell? ⟨w.heap.size,2,V⟩=U (.slice P.Dz P.Dy P.Fu)/\W.cell? ⟨w.heap.size,3,V⟩=U (.int .i64 x.cy)/\W.cell? ⟨w.heap.size,4,V⟩=U (.string x.fs)/\W.cell? ⟨w.heap.size,5,V⟩=U (.int .i64 x.up.op)/\W.cell? ⟨w.heap.size,6,V⟩=U (.int .i64 x.up.a)/\W.cell? ⟨w.heap.size,7,V⟩=U (.int .i64 x.up.b)/\W.cell? ⟨w.heap.size,8,V⟩=U (.int .i64 x.up.n)/\W.cell? ⟨w.heap.size,9,V⟩=U (.slice P.tY P.tX P.xR)/\W.cell? ⟨w.heap.size,10,V⟩=U (.slice P.t_ P.tZ P.xS)/\W.cell? ⟨w.heap.size,11,V⟩=U (.int .i64 x.dn.op)/\W.cell? ⟨w.heap.size,12,V⟩=U (.int .i64 x.dn.a)/\W.cell? ⟨w.heap.size,13,V⟩=U (.int .i64 x.dn.b)/\W.cell? ⟨w.heap.size,14,V⟩=U (.int .i64 x.dn.n)/\W.cell? ⟨w.heap.size,15,V⟩=U (.slice P.sM P.sK P.wH)/\W.cell? ⟨w.heap.size,16,V⟩=U (.slice P.sP P.sN P.wI)) (first|(refine FK.out _ ?_;exact bl;done)|(go_keep;done)) (first
   | (have t:=hb3;go_at_call 52;refine(ow [v1,v2] _ 2 2 _ rfl bT (X (zo _ _ _ _))).mono ?_;rintro e w9 ⟨rfl,rfl⟩)
   | (have t:=hb2;go_at_call 176;refine(CF.out _ bl).mono ?_;rintro e w3 ⟨rfl,hb3⟩)
   | (go_at_call 175;refine(CS.out _ bl).mono ?_;rintro e w2 ⟨rfl,hb2⟩))
  all_goals
   have HB3:=X hb3;go_wp2_with fail;go_ret;exact⟨by rw[← zQ];rfl,bl⟩
end Md
end Go.Proofs.YtkpekhpgdajabaaGreatDoor
