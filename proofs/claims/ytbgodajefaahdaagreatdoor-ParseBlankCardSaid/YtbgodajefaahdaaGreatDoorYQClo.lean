/-
  Parts of this proof: The contracts of the closures that declare a nam. The contracts of sameFault and checkFault. The contract of checkResource.
-/
import Derived.Test.YtbgodajefaahdaaGreatDoorYECheckN
import Derived.Test.YtbgodajefaahdaaGreatDoorYQVal
import Derived.Test.YtbgodajefaahdaaGreatDoorYPSame
import Derived.Test.YtbgodajefaahdaaGreatDoorYQSch
open Go.Proofs.Tryz renaming prog->ae
open Option renaming some->U,none->V
open Go renaming loadCellsFrom->af,Calls->ag,World->ah
open Go.Lib renaming hid->X
set_option linter.unusedVariables false
open Go.Lib (hid)
namespace Go.Proofs.YtbgodajefaahdaaGreatDoor
namespace Md
open Go.RowKit Go.Maps
open Sm (dR um ic p_)
open Ex (Gives block_lt)
attribute [local go_sem] NI Nl Ef Gf Gg Ec
set_option maxHeartbeats 4000000
theorem Aq (w:ah) (t:TypeId) (r1 r2:Int):∀i,(h:i<[r1,r2].length)->(w.alloc (.cells #[.int .i64 r1,.int .i64 r2] t)).cell? ⟨w.heap.size,i,V⟩=U (.int .i64 [r1,r2][i]):=by
 intro i h;rw[World.cell?_alloc_mark]
 match i,h with
 | 0,_=>rfl
 | 1,_=>rfl
theorem Bc (a b:Int):ic [a,b]=dR a b:=by unfold ic ic ic;rw[um]
theorem xY {b:Nat} {w w2:ah} (h:But b w w2) {g:Nat} {o:Nat} {v:Value} (hc:w.cell? ⟨g,o,V⟩=U v) (hg:g≠b):w2.cell? ⟨g,o,V⟩=U v:=
 (World.cell?_of_block (w:=w) (a:=⟨g,o,V⟩) (h.block g (block_lt hc) hg)).trans hc
theorem kR {p:Prop} (h:p:=by assumption):p:=h
theorem Ig {p:Prop} (h:p:=by((repeat (first|(with_reducible exact But.refl _ _)|(with_reducible assumption)|(with_reducible apply But.alloc)|(with_reducible apply But.drewN)|(with_reducible apply But.drew)|(with_reducible refine But.trans ?_ kR)|(with_reducible refine But.then ?_ kR)));done)):p:=h
set_option maxRecDepth 100000 in
theorem aku (x:iI) (b B1:Nat) (acc:List ByteArray) (w:ah) (hS:iW b acc w) (hn:acc.length<=100000) (hx:x.nm.size<=9223372036854775807) (hv:w.cell? ⟨B1,0,V⟩=U (.map (U b))) (hB:B1≠b)
 (tv:Int) (CT:Hid (∀W,But b w W->ag ae 114 #[.agg (lD x)] W (Gives (.int .i64 tv) W))) :
 ag ae 113 #[.agg (lD x),.pointer (U ⟨B1,0,V⟩)] w (Step b (dR (jA acc x.nm) tv,jy acc x.nm) w):=by
 have HS:=X hS;have oJ:=X hS.lt;have HV:=X hv;obtain⟨yZ,h2⟩:∃a,jy acc x.nm=a:=⟨_,rfl⟩
 obtain⟨v,hd⟩:∃v,jA acc x.nm=v:=⟨_,rfl⟩
 rw[h2,hd];have CD:=X (fun W (hW:iW b acc W)=>Ci hd h2 W hW hn hx);obtain⟨kk,hkk⟩:∃n:Nat,3=n:=⟨_,rfl⟩
 have hsz:∀w,(sizeOf 114).run ae w=.ok kk w:=fun w=>by rw[Tryz.sizeOf114,hkk]
 have HKK:=X hkk;have FK:Hid (∀W,But b (w.alloc (.cells (lD x) 114)) W->W.cell? ⟨B1,0,V⟩=U (.map (U b))/\W.cell? ⟨w.heap.size,0,V⟩=U (.string x.nm)/\(af ⟨w.heap.size,0,V⟩ 0 kk #[]).run ae W=.ok (lD x) W):=X fun W hb=>by
  have q:=bT.new.but hb (show w.heap.size≠b by have:=oJ.out;omega);exact⟨xY hb ((World.cell?_alloc_lt _ _ _ (block_lt HV.out)).trans HV.out) hB,q.get (NI x),q.cell.dW HKK.out⟩
 clear hS hd h2 hv hkk;go_enter Tryz.func113,Tryz.ntmps113;go_wp2_with fail;go_region_held3 (fun W=>W.cell? ⟨B1,0,V⟩=U (.map (U b))/\W.cell? ⟨w.heap.size,0,V⟩=U (.string x.nm)/\(af ⟨w.heap.size,0,V⟩ 0 kk #[]).run ae W=.ok (lD x) W) (first|(refine FK.out _ ?_;((repeat (first|(with_reducible exact But.refl _ _)|(with_reducible assumption)|(with_reducible apply But.alloc)|(with_reducible apply But.drewN)|(with_reducible apply But.drew)|(with_reducible refine But.trans ?_ kR)|(with_reducible refine But.then ?_ kR)));done))|(go_keep;done)) (first
  | (have t:=hb3;go_at_call 34;refine(p_ [v,tv] _ 2 2 _ rfl (by omega) (X (Aq _ _ _ _))).mono ?_;rintro e w9 ⟨rfl,rfl⟩)
  | (have t:=hb2;go_at_call 114;refine(CT.out _ Ig).mono ?_;rintro e w3 ⟨rfl,hb3⟩)
  | (go_at_call 69;refine(CD.out _ (HS.out.on bl)).mono ?_;rintro e w2 ⟨rfl,hs2,hb2⟩))
 all_goals
  have HB3:=X hb3;go_wp2_with fail;go_ret;exact⟨by rw[← Bc];rfl,hs2.on bl,by((repeat (first|(with_reducible exact But.refl _ _)|(with_reducible assumption)|(with_reducible apply But.alloc)|(with_reducible apply But.drewN)|(with_reducible apply But.drew)|(with_reducible refine But.trans ?_ kR)|(with_reducible refine But.then ?_ kR)));done)⟩
set_option maxRecDepth 100000 in
theorem ako (x:iF) (b B1:Nat) (acc:List ByteArray) (w:ah) (hS:iW b acc w) (hn:acc.length<=100000) (hx:x.nm.size<=9223372036854775807) (hv:w.cell? ⟨B1,0,V⟩=U (.map (U b))) (hB:B1≠b)
 (tv:Int) (CT:Hid (∀W,But b w W->ag ae 117 #[.agg (lC x)] W (Gives (.int .i64 tv) W))) :
 ag ae 116 #[.agg (lC x),.pointer (U ⟨B1,0,V⟩)] w (Step b (dR (jA acc x.nm) tv,jy acc x.nm) w):=by
 have HS:=X hS;have oJ:=X hS.lt;have HV:=X hv;obtain⟨yZ,h2⟩:∃a,jy acc x.nm=a:=⟨_,rfl⟩
 obtain⟨v,hd⟩:∃v,jA acc x.nm=v:=⟨_,rfl⟩
 rw[h2,hd];have CD:=X (fun W (hW:iW b acc W)=>Ci hd h2 W hW hn hx);obtain⟨kk,hkk⟩:∃n:Nat,3=n:=⟨_,rfl⟩
 have hsz:∀w,(sizeOf 116).run ae w=.ok kk w:=fun w=>by rw[Tryz.sizeOf116,hkk]
 have HKK:=X hkk;have FK:Hid (∀W,But b (w.alloc (.cells (lC x) 116)) W->W.cell? ⟨B1,0,V⟩=U (.map (U b))/\W.cell? ⟨w.heap.size,0,V⟩=U (.string x.nm)/\(af ⟨w.heap.size,0,V⟩ 0 kk #[]).run ae W=.ok (lC x) W):=X fun W hb=>by
  have q:=bT.new.but hb (show w.heap.size≠b by have:=oJ.out;omega);exact⟨xY hb ((World.cell?_alloc_lt _ _ _ (block_lt HV.out)).trans HV.out) hB,q.get (Nl x),q.cell.dW HKK.out⟩
 clear hS hd h2 hv hkk;go_enter Tryz.func116,Tryz.ntmps116;go_wp2_with fail;go_region_held3 (fun W=>W.cell? ⟨B1,0,V⟩=U (.map (U b))/\W.cell? ⟨w.heap.size,0,V⟩=U (.string x.nm)/\(af ⟨w.heap.size,0,V⟩ 0 kk #[]).run ae W=.ok (lC x) W) (first|(refine FK.out _ ?_;((repeat (first|(with_reducible exact But.refl _ _)|(with_reducible assumption)|(with_reducible apply But.alloc)|(with_reducible apply But.drewN)|(with_reducible apply But.drew)|(with_reducible refine But.trans ?_ kR)|(with_reducible refine But.then ?_ kR)));done))|(go_keep;done)) (first
  | (have t:=hb3;go_at_call 34;refine(p_ [v,tv] _ 2 2 _ rfl (by omega) (X (Aq _ _ _ _))).mono ?_;rintro e w9 ⟨rfl,rfl⟩)
  | (have t:=hb2;go_at_call 117;refine(CT.out _ Ig).mono ?_;rintro e w3 ⟨rfl,hb3⟩)
  | (go_at_call 69;refine(CD.out _ (HS.out.on bl)).mono ?_;rintro e w2 ⟨rfl,hs2,hb2⟩))
 all_goals
  have HB3:=X hb3;go_wp2_with fail;go_ret;exact⟨by rw[← Bc];rfl,hs2.on bl,by((repeat (first|(with_reducible exact But.refl _ _)|(with_reducible assumption)|(with_reducible apply But.alloc)|(with_reducible apply But.drewN)|(with_reducible apply But.drew)|(with_reducible refine But.trans ?_ kR)|(with_reducible refine But.then ?_ kR)));done)⟩
set_option maxRecDepth 100000 in
theorem aks (x:eQ) (P:qV) (b B1:Nat) (acc:List ByteArray) (w:ah) (hS:iW b acc w) (hn:acc.length<=100000) (hx:x.nm.size<=9223372036854775807) (hv:w.cell? ⟨B1,0,V⟩=U (.map (U b))) (hB:B1≠b)
 (tv:Int) (CT:Hid (∀W,But b w W->ag ae 121 #[.agg (fJ x P)] W (Gives (.int .i64 tv) W))) :
 ag ae 120 #[.agg (fJ x P),.pointer (U ⟨B1,0,V⟩)] w (Step b (dR (jA acc x.nm) tv,jy acc x.nm) w):=by
 have HS:=X hS;have oJ:=X hS.lt;have HV:=X hv;obtain⟨yZ,h2⟩:∃a,jy acc x.nm=a:=⟨_,rfl⟩
 obtain⟨v,hd⟩:∃v,jA acc x.nm=v:=⟨_,rfl⟩
 rw[h2,hd];have CD:=X (fun W (hW:iW b acc W)=>Ci hd h2 W hW hn hx);obtain⟨kk,hkk⟩:∃n:Nat,4=n:=⟨_,rfl⟩
 have hsz:∀w,(sizeOf 119).run ae w=.ok kk w:=fun w=>by rw[Tryz.sizeOf119,hkk]
 have HKK:=X hkk;have FK:Hid (∀W,But b (w.alloc (.cells (fJ x P) 119)) W->W.cell? ⟨B1,0,V⟩=U (.map (U b))/\W.cell? ⟨w.heap.size,0,V⟩=U (.string x.nm)/\(af ⟨w.heap.size,0,V⟩ 0 kk #[]).run ae W=.ok (fJ x P) W):=X fun W hb=>by
  have q:=bT.new.but hb (show w.heap.size≠b by have:=oJ.out;omega);exact⟨xY hb ((World.cell?_alloc_lt _ _ _ (block_lt HV.out)).trans HV.out) hB,q.get (Ef x P),q.cell.dW HKK.out⟩
 clear hS hd h2 hv hkk;go_enter Tryz.func120,Tryz.ntmps120;go_wp2_with fail;go_region_held3 (fun W=>W.cell? ⟨B1,0,V⟩=U (.map (U b))/\W.cell? ⟨w.heap.size,0,V⟩=U (.string x.nm)/\(af ⟨w.heap.size,0,V⟩ 0 kk #[]).run ae W=.ok (fJ x P) W) (first|(refine FK.out _ ?_;((repeat (first|(with_reducible exact But.refl _ _)|(with_reducible assumption)|(with_reducible apply But.alloc)|(with_reducible apply But.drewN)|(with_reducible apply But.drew)|(with_reducible refine But.trans ?_ kR)|(with_reducible refine But.then ?_ kR)));done))|(go_keep;done)) (first
  | (have t:=hb3;go_at_call 34;refine(p_ [v,tv] _ 2 2 _ rfl (by omega) (X (Aq _ _ _ _))).mono ?_;rintro e w9 ⟨rfl,rfl⟩)
  | (have t:=hb2;go_at_call 121;refine(CT.out _ Ig).mono ?_;rintro e w3 ⟨rfl,hb3⟩)
  | (go_at_call 69;refine(CD.out _ (HS.out.on bl)).mono ?_;rintro e w2 ⟨rfl,hs2,hb2⟩))
 all_goals
  have HB3:=X hb3;go_wp2_with fail;go_ret;exact⟨by rw[← Bc];rfl,hs2.on bl,by((repeat (first|(with_reducible exact But.refl _ _)|(with_reducible assumption)|(with_reducible apply But.alloc)|(with_reducible apply But.drewN)|(with_reducible apply But.drew)|(with_reducible refine But.trans ?_ kR)|(with_reducible refine But.then ?_ kR)));done)⟩
set_option maxRecDepth 100000 in
theorem akt (x:b_) (P:fe) (b B1:Nat) (acc:List ByteArray) (w:ah) (hS:iW b acc w) (hn:acc.length<=100000) (hx:x.nm.size<=9223372036854775807) (hv:w.cell? ⟨B1,0,V⟩=U (.map (U b))) (hB:B1≠b)
 (tv:Int) (CT:Hid (∀W,But b w W->ag ae 74 #[.agg (bX x P)] W (Gives (.int .i64 tv) W))) :
 ag ae 73 #[.agg (bX x P),.pointer (U ⟨B1,0,V⟩)] w (Step b (dR (jA acc x.nm) tv,jy acc x.nm) w):=by
 have HS:=X hS;have oJ:=X hS.lt;have HV:=X hv;obtain⟨yZ,h2⟩:∃a,jy acc x.nm=a:=⟨_,rfl⟩
 obtain⟨v,hd⟩:∃v,jA acc x.nm=v:=⟨_,rfl⟩
 rw[h2,hd];have CD:=X (fun W (hW:iW b acc W)=>Ci hd h2 W hW hn hx);obtain⟨kk,hkk⟩:∃n:Nat,13=n:=⟨_,rfl⟩
 have hsz:∀w,(sizeOf 53).run ae w=.ok kk w:=fun w=>by rw[Tryz.sizeOf53,hkk]
 have HKK:=X hkk;have FK:Hid (∀W,But b (w.alloc (.cells (bX x P) 53)) W->W.cell? ⟨B1,0,V⟩=U (.map (U b))/\W.cell? ⟨w.heap.size,0,V⟩=U (.string x.nm)/\(af ⟨w.heap.size,0,V⟩ 0 kk #[]).run ae W=.ok (bX x P) W):=X fun W hb=>by
  have q:=bT.new.but hb (show w.heap.size≠b by have:=oJ.out;omega);exact⟨xY hb ((World.cell?_alloc_lt _ _ _ (block_lt HV.out)).trans HV.out) hB,q.get (Gg x P),q.cell.dW HKK.out⟩
 clear hS hd h2 hv hkk;go_enter Tryz.func73,Tryz.ntmps73;go_wp2_with fail;go_region_held3 (fun W=>W.cell? ⟨B1,0,V⟩=U (.map (U b))/\W.cell? ⟨w.heap.size,0,V⟩=U (.string x.nm)/\(af ⟨w.heap.size,0,V⟩ 0 kk #[]).run ae W=.ok (bX x P) W) (first|(refine FK.out _ ?_;((repeat (first|(with_reducible exact But.refl _ _)|(with_reducible assumption)|(with_reducible apply But.alloc)|(with_reducible apply But.drewN)|(with_reducible apply But.drew)|(with_reducible refine But.trans ?_ kR)|(with_reducible refine But.then ?_ kR)));done))|(go_keep;done)) (first
  | (have t:=hb3;go_at_call 34;refine(p_ [v,tv] _ 2 2 _ rfl (by omega) (X (Aq _ _ _ _))).mono ?_;rintro e w9 ⟨rfl,rfl⟩)
  | (have t:=hb2;go_at_call 74;refine(CT.out _ Ig).mono ?_;rintro e w3 ⟨rfl,hb3⟩)
  | (go_at_call 69;refine(CD.out _ (HS.out.on bl)).mono ?_;rintro e w2 ⟨rfl,hs2,hb2⟩))
 all_goals
  have HB3:=X hb3;go_wp2_with fail;go_ret;exact⟨by rw[← Bc];rfl,hs2.on bl,by((repeat (first|(with_reducible exact But.refl _ _)|(with_reducible assumption)|(with_reducible apply But.alloc)|(with_reducible apply But.drewN)|(with_reducible apply But.drew)|(with_reducible refine But.trans ?_ kR)|(with_reducible refine But.then ?_ kR)));done)⟩
set_option maxRecDepth 100000 in
theorem akr (x:dm) (P:eO) (b B1:Nat) (acc:List ByteArray) (w:ah) (hS:iW b acc w) (hn:acc.length<=100000) (hx:x.nm.size<=9223372036854775807) (hv:w.cell? ⟨B1,0,V⟩=U (.map (U b))) (hB:B1≠b) (B2:Nat) (sp:Option Addr) (sm sc:Nat) (hu:w.cell? ⟨B2,6,V⟩=U (.slice sp sm sc)) (hB2:B2≠b)
 (tv:Int) (CT:Hid (∀W,But b w W->ag ae 111 #[.agg (dI x P),.slice sp sm sc] W (Gives (.int .i64 tv) W))) :
 ag ae 110 #[.agg (dI x P),.pointer (U ⟨B1,0,V⟩),.pointer (U ⟨B2,0,V⟩)] w (Step b (dR (jA acc x.nm) tv,jy acc x.nm) w):=by
 have HS:=X hS;have oJ:=X hS.lt;have HV:=X hv;have HU:=X hu;obtain⟨yZ,h2⟩:∃a,jy acc x.nm=a:=⟨_,rfl⟩
 obtain⟨v,hd⟩:∃v,jA acc x.nm=v:=⟨_,rfl⟩
 rw[h2,hd];have CD:=X (fun W (hW:iW b acc W)=>Ci hd h2 W hW hn hx);obtain⟨kk,hkk⟩:∃n:Nat,17=n:=⟨_,rfl⟩
 have hsz:∀w,(sizeOf 111).run ae w=.ok kk w:=fun w=>by rw[Tryz.sizeOf111,hkk]
 have HKK:=X hkk;have FK:Hid (∀W,But b (w.alloc (.cells (dI x P) 111)) W->W.cell? ⟨B1,0,V⟩=U (.map (U b))/\W.cell? ⟨w.heap.size,0,V⟩=U (.string x.nm)/\(af ⟨w.heap.size,0,V⟩ 0 kk #[]).run ae W=.ok (dI x P) W/\W.cell? ⟨B2,6,V⟩=U (.slice sp sm sc)):=X fun W hb=>by
  have q:=bT.new.but hb (show w.heap.size≠b by have:=oJ.out;omega);exact⟨xY hb ((World.cell?_alloc_lt _ _ _ (block_lt HV.out)).trans HV.out) hB,q.get (Gf x P),q.cell.dW HKK.out,xY hb ((World.cell?_alloc_lt _ _ _ (block_lt HU.out)).trans HU.out) hB2⟩
 clear hS hd h2 hv hkk hu;go_enter Tryz.func110,Tryz.ntmps110;go_wp2_with fail;go_region_held3 (fun W=>W.cell? ⟨B1,0,V⟩=U (.map (U b))/\W.cell? ⟨w.heap.size,0,V⟩=U (.string x.nm)/\(af ⟨w.heap.size,0,V⟩ 0 kk #[]).run ae W=.ok (dI x P) W/\W.cell? ⟨B2,6,V⟩=U (.slice sp sm sc)) (first|(refine FK.out _ ?_;((repeat (first|(with_reducible exact But.refl _ _)|(with_reducible assumption)|(with_reducible apply But.alloc)|(with_reducible apply But.drewN)|(with_reducible apply But.drew)|(with_reducible refine But.trans ?_ kR)|(with_reducible refine But.then ?_ kR)));done))|(go_keep;done)) (first
  | (have t:=hb3;go_at_call 34;refine(p_ [v,tv] _ 2 2 _ rfl (by omega) (X (Aq _ _ _ _))).mono ?_;rintro e w9 ⟨rfl,rfl⟩)
  | (have t:=hb2;go_at_call 111;refine(CT.out _ Ig).mono ?_;rintro e w3 ⟨rfl,hb3⟩)
  | (go_at_call 69;refine(CD.out _ (HS.out.on bl)).mono ?_;rintro e w2 ⟨rfl,hs2,hb2⟩))
 all_goals
  have HB3:=X hb3;go_wp2_with fail;go_ret;exact⟨by rw[← Bc];rfl,hs2.on bl,by((repeat (first|(with_reducible exact But.refl _ _)|(with_reducible assumption)|(with_reducible apply But.alloc)|(with_reducible apply But.drewN)|(with_reducible apply But.drew)|(with_reducible refine But.trans ?_ kR)|(with_reducible refine But.then ?_ kR)));done)⟩
set_option maxRecDepth 100000 in
theorem akq (x:Lw) (P:rR) (b B1:Nat) (acc:List ByteArray) (w:ah) (hS:iW b acc w) (hn:acc.length<=100000) (hx:x.nm.size<=9223372036854775807) (hv:w.cell? ⟨B1,0,V⟩=U (.map (U b))) (hB:B1≠b) (B2:Nat) (d:Array Value) (hds:d.size=13) (hu:bT w B2 53 d) (hB2:B2≠b)
 (tv:Int) (CT:Hid (∀W,But b w W->ag ae 167 #[.agg d,.agg (fo x P)] W (Gives (.int .i64 tv) W))) :
 ag ae 166 #[.agg (fo x P),.pointer (U ⟨B1,0,V⟩),.pointer (U ⟨B2,0,V⟩)] w (Step b (dR (jA acc x.nm) tv,jy acc x.nm) w):=by
 have HS:=X hS;have oJ:=X hS.lt;have HV:=X hv;have HU:=X hu;obtain⟨k2,hk2⟩:∃n:Nat,13=n:=⟨_,rfl⟩
 have hsz2:∀w,(sizeOf 53).run ae w=.ok k2 w:=fun w=>by rw[Tryz.sizeOf53,hk2]
 have uT:=X (show d.size=k2 from hds.trans hk2);obtain⟨yZ,h2⟩:∃a,jy acc x.nm=a:=⟨_,rfl⟩
 obtain⟨v,hd⟩:∃v,jA acc x.nm=v:=⟨_,rfl⟩
 rw[h2,hd];have CD:=X (fun W (hW:iW b acc W)=>Ci hd h2 W hW hn hx);obtain⟨kk,hkk⟩:∃n:Nat,3=n:=⟨_,rfl⟩
 have hsz:∀w,(sizeOf 127).run ae w=.ok kk w:=fun w=>by rw[Tryz.sizeOf127,hkk]
 have HKK:=X hkk;have FK:Hid (∀W,But b (w.alloc (.cells (fo x P) 127)) W->W.cell? ⟨B1,0,V⟩=U (.map (U b))/\W.cell? ⟨w.heap.size,0,V⟩=U (.string x.nm)/\(af ⟨w.heap.size,0,V⟩ 0 kk #[]).run ae W=.ok (fo x P) W/\(af ⟨B2,0,V⟩ 0 k2 #[]).run ae W=.ok d W):=X fun W hb=>by
  have q:=bT.new.but hb (show w.heap.size≠b by have:=oJ.out;omega);exact⟨xY hb ((World.cell?_alloc_lt _ _ _ (block_lt HV.out)).trans HV.out) hB,q.get (Ec x P),q.cell.dW HKK.out,((HU.out.on (show Below w.heap.size w _ by exact bl)).but hb hB2).cell.dW uT.out⟩
 clear hS hd h2 hv hkk hu hk2 hds;go_enter Tryz.func166,Tryz.ntmps166;go_wp2_with fail;go_region_held3 (fun W=>W.cell? ⟨B1,0,V⟩=U (.map (U b))/\W.cell? ⟨w.heap.size,0,V⟩=U (.string x.nm)/\(af ⟨w.heap.size,0,V⟩ 0 kk #[]).run ae W=.ok (fo x P) W/\(af ⟨B2,0,V⟩ 0 k2 #[]).run ae W=.ok d W) (first|(refine FK.out _ ?_;((repeat (first|(with_reducible exact But.refl _ _)|(with_reducible assumption)|(with_reducible apply But.alloc)|(with_reducible apply But.drewN)|(with_reducible apply But.drew)|(with_reducible refine But.trans ?_ kR)|(with_reducible refine But.then ?_ kR)));done))|(go_keep;done)) (first
  | (have t:=hb3;go_at_call 34;refine(p_ [v,tv] _ 2 2 _ rfl (by omega) (X (Aq _ _ _ _))).mono ?_;rintro e w9 ⟨rfl,rfl⟩)
  | (have t:=hb2;go_at_call 167;refine(CT.out _ Ig).mono ?_;rintro e w3 ⟨rfl,hb3⟩)
  | (go_at_call 69;refine(CD.out _ (HS.out.on bl)).mono ?_;rintro e w2 ⟨rfl,hs2,hb2⟩))
 all_goals
  have HB3:=X hb3;go_wp2_with fail;go_ret;exact⟨by rw[← Bc];rfl,hs2.on bl,by((repeat (first|(with_reducible exact But.refl _ _)|(with_reducible assumption)|(with_reducible apply But.alloc)|(with_reducible apply But.drewN)|(with_reducible apply But.drew)|(with_reducible refine But.trans ?_ kR)|(with_reducible refine But.then ?_ kR)));done)⟩
end Md
namespace Md
open Go.RowKit Go.Maps
open Na (bs Strs fst)
open Sm (Dt kQ zD nE oQ G9 Ints dR p_)
open Ex (Lo Gives)
set_option maxHeartbeats 4000000
abbrev dv (d:Dt) (vp:Option Addr) (vm vc:Nat) (wp:Option Addr) (wm wc:Nat):Value:=.agg #[.int .i64 d.op,.int .i64 d.a,.int .i64 d.b,.int .i64 d.n,.slice vp vm vc,.slice wp wm wc]
theorem aaG {G H:Nat->Prop} {w:ah} (d e:Dt) (vp:Option Addr) (vm vc:Nat) (wp:Option Addr) (wm wc:Nat) (Fx:Option Addr) (Lv Lt:Nat) (wp':Option Addr) (LK LH:Nat) (h1:Ints G w d.vs vp vm) (h2:Ints G w d.ws wp wm) (h3:Ints H w e.vs Fx Lv) (h4:Ints H w e.ws wp' LK):ag ae 137 #[dv d vp vm vc wp wm wc,dv e Fx Lv Lt wp' LK LH] w (Gives (.bool (kQ d e)) w):=by
 have h:=Di.zQ d.op d.a d.b d.n vp d.vs.length vc wp d.ws.length wc _ _ e.op e.a e.b e.n Fx e.vs.length Lt wp' e.ws.length LH _ _ w h1.row h2.row h3.row h4.row;rw[G9,h1.1,h2.1,h3.1,h4.1] at h;exact h
theorem aad {G:Nat->Prop} {w:ah} (d:Dt) (vp:Option Addr) (vm vc:Nat) (wp:Option Addr) (wm wc:Nat) (h1:Ints G w d.vs vp vm) (h2:Ints G w d.ws wp wm):ag ae 91 #[dv d vp vm vc wp wm wc] w (Gives (.int .i64 (oQ d)) w):=by
 have h:=Di.pO d.op d.a d.b d.n vp d.vs.length vc wp d.ws.length wc _ _ w h1.row h2.row;rw[show oQ d=Di.Cm d.op d.a d.b d.n d.vs.length d.ws.length (fun i=>d.vs.getD i 0) (fun i=>d.ws.getD i 0) from rfl];rw[h1.1,h2.1] at h ⊢;exact h
def j6 (x:dm) (P:eO):Array Value:=#[.string x.fs,.int .i64 x.up.op,.int .i64 x.up.a,.int .i64 x.up.b,.int .i64 x.up.n,.slice P.tu P.sZ P.vX,.slice P.tF P.tC P.vY,.int .i64 x.dn.op,.int .i64 x.dn.a,.int .i64 x.dn.b,.int .i64 x.dn.n,.slice P.rW P.rV P.u_,.slice P.rY P.rX P.ve]
theorem amk (x:dm) (P:eO):∀r v,(j6 x P)[r]?=U v->(dI x P)[4+r]?=U v:=by
 intro r v h;have hr:r<13:=(Array.getElem?_eq_some_iff.1 h).1
 match r,hr with
 | 0,_=>exact h
 | 1,_=>exact h
 | 2,_=>exact h
 | 3,_=>exact h
 | 4,_=>exact h
 | 5,_=>exact h
 | 6,_=>exact h
 | 7,_=>exact h
 | 8,_=>exact h
 | 9,_=>exact h
 | 10,_=>exact h
 | 11,_=>exact h
 | 12,_=>exact h
theorem At.Ay {w:ah} {g o:Nat} {x:dm} {P:eO} (h:At w g o (dI x P)):At w g (o+4) (j6 x P):=fun r v hv=>by
 rw[show o+4+r=o+(4+r) by omega];exact h _ _ (amk x P r v hv)
theorem Oq (x:dm) (P:eO):(j6 x P)[0]?=U (.string x.fs):=rfl
theorem abr (x:dm) (P:eO):(j6 x P)[1]?=U (.int .i64 x.up.op):=rfl
theorem abt (x:dm) (P:eO):(j6 x P)[2]?=U (.int .i64 x.up.a):=rfl
theorem abu (x:dm) (P:eO):(j6 x P)[3]?=U (.int .i64 x.up.b):=rfl
theorem abv (x:dm) (P:eO):(j6 x P)[4]?=U (.int .i64 x.up.n):=rfl
theorem abw (x:dm) (P:eO):(j6 x P)[5]?=U (.slice P.tu P.sZ P.vX):=rfl
theorem abx (x:dm) (P:eO):(j6 x P)[6]?=U (.slice P.tF P.tC P.vY):=rfl
theorem Ow (x:dm) (P:eO):(j6 x P)[7]?=U (.int .i64 x.dn.op):=rfl
theorem Ox (x:dm) (P:eO):(j6 x P)[8]?=U (.int .i64 x.dn.a):=rfl
theorem Oy (x:dm) (P:eO):(j6 x P)[9]?=U (.int .i64 x.dn.b):=rfl
theorem Ot (x:dm) (P:eO):(j6 x P)[10]?=U (.int .i64 x.dn.n):=rfl
theorem Ou (x:dm) (P:eO):(j6 x P)[11]?=U (.slice P.rW P.rV P.u_):=rfl
theorem Ov (x:dm) (P:eO):(j6 x P)[12]?=U (.slice P.rY P.rX P.ve):=rfl
attribute [local go_sem] Oq abr abt abu abv abw abx Ow Ox Oy Ot Ou Ov
structure BU (w:ah) (x:dm) (P:eO):Prop where
 uv:Ints (Lo w.heap.size) w x.up.vs P.tu P.sZ
 uw:Ints (Lo w.heap.size) w x.up.ws P.tF P.tC
 dv:Ints (Lo w.heap.size) w x.dn.vs P.rW P.rV
 dw:Ints (Lo w.heap.size) w x.dn.ws P.rY P.rX
theorem BU.on {w w2:ah} (hb:Below w.heap.size w w2) {x:dm} {P:eO} (h:BU w x P):BU w2 x P:=⟨Ints.on hb h.uv,Ints.on hb h.uw,Ints.on hb h.dv,Ints.on hb h.dw⟩
theorem m_.Ay {w:ah} {x:dm} {P:eO} (h:m_ (Lo w.heap.size) w x P):BU w x P:=⟨h.upv,h.upw,h.dnv,h.dnw⟩
def Ma:dm:=⟨nE,0,[],0,nE,zD,zD⟩
def Ye:eO:=⟨V,0,0,V,0,0,V,0,0,V,0,0,V,0,0⟩
theorem asX (w:ah):BU w Ma Ye:=⟨⟨rfl,by decide,.inl rfl⟩,⟨rfl,by decide,.inl rfl⟩,⟨rfl,by decide,.inl rfl⟩,⟨rfl,by decide,.inl rfl⟩⟩
set_option maxRecDepth 100000 in
theorem aqB (x y:dm) (P Q:eO) (w:ah) (hx:BU w x P) (hy:BU w y Q):ag ae 188 #[.agg (j6 x P),.agg (j6 y Q)] w (Gives (.bool (Cr x y)) w):=by
 have HX:=X hx;have HY:=X hy;have FX:=rq (w:=w) 109 109 (j6 x P) (j6 y Q);clear hx hy;obtain⟨b1,h1⟩:∃b,dF x.fs y.fs=b:=⟨_,rfl⟩
 obtain⟨b2,h2⟩:∃b,kQ x.up y.up=b:=⟨_,rfl⟩
 obtain⟨b3,h3⟩:∃b,kQ x.dn y.dn=b:=⟨_,rfl⟩
 have hf:Cr x y=(b1&&b2&&b3):=by unfold Cr;rw[h1,h2,h3]
 rw[hf];have u1:(x.fs.toList==y.fs.toList)=b1:=by rw[mo];exact h1
 have C1:=X (fun W (hW:Below w.heap.size w W)=>(show ag ae 137 #[.agg #[.int .i64 x.up.op,.int .i64 x.up.a,.int .i64 x.up.b,.int .i64 x.up.n,.slice P.tu P.sZ P.vX,.slice P.tF P.tC P.vY],.agg #[.int .i64 y.up.op,.int .i64 y.up.a,.int .i64 y.up.b,.int .i64 y.up.n,.slice Q.tu Q.sZ Q.vX,.slice Q.tF Q.tC Q.vY]] W (Gives (.bool b2) W) by rw[← h2];exact aaG x.up y.up _ _ _ _ _ _ _ _ _ _ _ _ (HX.out.on hW).uv (HX.out.on hW).uw (HY.out.on hW).uv (HY.out.on hW).uw));have C2:=X (fun W (hW:Below w.heap.size w W)=>(show ag ae 137 #[.agg #[.int .i64 x.dn.op,.int .i64 x.dn.a,.int .i64 x.dn.b,.int .i64 x.dn.n,.slice P.rW P.rV P.u_,.slice P.rY P.rX P.ve],.agg #[.int .i64 y.dn.op,.int .i64 y.dn.a,.int .i64 y.dn.b,.int .i64 y.dn.n,.slice Q.rW Q.rV Q.u_,.slice Q.rY Q.rX Q.ve]] W (Gives (.bool b3) W) by rw[← h3];exact aaG x.dn y.dn _ _ _ _ _ _ _ _ _ _ _ _ (HX.out.on hW).dv (HX.out.on hW).dw (HY.out.on hW).dv (HY.out.on hW).dw));clear h1 h2 h3 hf
 cases b1 with
 | false=>
  go_enter Tryz.func188,Tryz.ntmps188;go_wp2_with fail;go_ret;exact⟨rfl,bl⟩
 | true=>
  go_enter Tryz.func188,Tryz.ntmps188;go_wp2_with fail;refine(C1.out _ bl).mono ?_;rintro e w2 ⟨rfl,hb2⟩
  cases b2 with
  | false=>
   go_wp2_with fail;go_ret;exact⟨rfl,bl⟩
  | true=>
   have q:=FX.out w2 bl;have p7:=q.1.get (Ow x P);have p8:=q.1.get (Ox x P);have p9:=q.1.get (Oy x P);have oF:=q.1.get (Ot x P);have C_:=q.1.get (Ou x P);have EP:=q.1.get (Ov x P);have r7:=q.2.get (Ow y Q);have r8:=q.2.get (Ox y Q);have r9:=q.2.get (Oy y Q);have jC:=q.2.get (Ot y Q);have rF:=q.2.get (Ou y Q);have Dl:=q.2.get (Ov y Q);clear q;go_wp2_with fail;refine(C2.out _ bl).mono ?_;rintro e w3 ⟨rfl,hb3⟩;go_wp2_with fail;go_ret;exact⟨by simp,bl⟩
theorem Gu (s:ByteArray):s.toList.isEmpty=dF s nE:=by
 rw[Lib.toList_data]
 show(bs s).isEmpty=_
 unfold dF
 cases bs s with
 | nil=>rfl
 | cons x t=>rfl
theorem amA (x:dm):Cr x Ma=(dF x.fs nE&&kQ x.up zD&&kQ x.dn zD):=rfl
set_option maxRecDepth 100000 in
theorem ajT (x:dm) (P:eO) (sm:List ByteArray) (p:Option Addr) (m c:Nat) (w:ah) (hx:BU w x P) (hs:Strs w p m sm):ag ae 160 #[.agg (j6 x P),.slice p m c] w (Gives (.int .i64 (zo x sm)) w):=by
 have HX:=X hx;have HS:=X hs;have FX:=far (w:=w) 109 (j6 x P);clear hx hs;obtain⟨b1,h1⟩:∃b,dF x.fs nE=b:=⟨_,rfl⟩
 obtain⟨z,hz⟩:∃b,Cr x Ma=b:=⟨_,rfl⟩
 obtain⟨kk,hkk⟩:∃n:Nat,13=n:=⟨_,rfl⟩
 have hsz:∀w,(sizeOf 109).run ae w=.ok kk w:=fun w=>by rw[Tryz.sizeOf109,hkk]
 have HKK:=X hkk;have ld:=fun W=>run_loadCellsFrom_new (P:=ae) W 109 (j6 x P) kk hkk;have CZ:=X (fun W (hW:Below w.heap.size w W)=>(show ag ae 188 #[.agg (j6 x P),.agg (j6 Ma Ye)] W (Gives (.bool z) W) by rw[← hz];exact aqB x Ma P Ye W (HX.out.on hW) (asX W)));have u1:x.fs.toList.isEmpty=b1:=by rw[Gu];exact h1
 have HE:Hid (zo x sm=if z then 0 else if b1 then 1 else if fst sm x.fs<0 then 5 else dR (oQ x.up) (oQ x.dn)):=X (by
  unfold zo;rw[← hz,amA];have hb:(bs x.fs=[])=(b1=true):=by rw[← h1];unfold dF;rw[decide_eq_true_eq]
  simp only[hb];cases b1
  · simp[h1]
  · simp only[h1,if_true,Bool.true_and,Bool.and_eq_true])
 have HB:=X (fun W (hW:Below w.heap.size w W)=>Na.abm p m c sm x.fs W (HS.out.on hW));have CU:=X (fun W (hW:Below w.heap.size w W)=>aad x.up _ _ P.vX _ _ P.vY (HX.out.on hW).uv (HX.out.on hW).uw);have CN:=X (fun W (hW:Below w.heap.size w W)=>aad x.dn _ _ P.u_ _ _ P.ve (HX.out.on hW).dv (HX.out.on hW).dw);clear hkk h1 hz
 cases z with
 | true=>
  rw[show zo x sm=0 from HE.out];go_enter Tryz.func160,Tryz.ntmps160;go_wp2_with fail;refine(CZ.out _ bl).mono ?_;rintro e w2 ⟨rfl,hb2⟩;go_wp2_with fail;go_ret;exact⟨rfl,bl⟩
 | false=>
  cases b1 with
  | true=>
   rw[show zo x sm=1 from HE.out];go_enter Tryz.func160,Tryz.ntmps160;go_wp2_with fail;refine(CZ.out _ bl).mono ?_;rintro e w2 ⟨rfl,hb2⟩;have q:=FX.out w2 bl;have p0:=q.get (Oq x P);clear q;go_wp2_with fail;go_ret;exact⟨rfl,bl⟩
  | false=>
   obtain⟨k,hk⟩:∃k,fst sm x.fs=k:=⟨_,rfl⟩
   rw[hk] at HB HE;clear hk;by_cases hk0:k<0
   · rw[show zo x sm=5 by rw[HE.out];exact if_pos hk0];have d0:=decide_eq_true hk0;go_enter Tryz.func160,Tryz.ntmps160;go_wp2_with fail;refine(CZ.out _ bl).mono ?_;rintro e w2 ⟨rfl,hb2⟩;have q:=FX.out w2 bl;have p0:=q.get (Oq x P);clear q;go_wp2_with fail;refine(HB.out _ bl).mono ?_;rintro e w3 ⟨rfl,rfl⟩;go_wp2_with fail;go_ret;exact⟨rfl,bl⟩
   · rw[show zo x sm=dR (oQ x.up) (oQ x.dn) by rw[HE.out];exact if_neg hk0];have d0:=decide_eq_false hk0;obtain⟨v1,hv1⟩:∃v,oQ x.up=v:=⟨_,rfl⟩
     obtain⟨v2,hv2⟩:∃v,oQ x.dn=v:=⟨_,rfl⟩
     rw[hv1] at CU ⊢;rw[hv2] at CN ⊢;have FY:Hid (∀W,Below (w.alloc (.cells (j6 x P) 109)).heap.size (w.alloc (.cells (j6 x P) 109)) W->W.cell? ⟨w.heap.size,1,V⟩=U (.int .i64 x.up.op)/\W.cell? ⟨w.heap.size,2,V⟩=U (.int .i64 x.up.a)/\W.cell? ⟨w.heap.size,3,V⟩=U (.int .i64 x.up.b)/\W.cell? ⟨w.heap.size,4,V⟩=U (.int .i64 x.up.n)/\W.cell? ⟨w.heap.size,5,V⟩=U (.slice P.tu P.sZ P.vX)/\W.cell? ⟨w.heap.size,6,V⟩=U (.slice P.tF P.tC P.vY)/\W.cell? ⟨w.heap.size,7,V⟩=U (.int .i64 x.dn.op)/\W.cell? ⟨w.heap.size,8,V⟩=U (.int .i64 x.dn.a)/\W.cell? ⟨w.heap.size,9,V⟩=U (.int .i64 x.dn.b)/\W.cell? ⟨w.heap.size,10,V⟩=U (.int .i64 x.dn.n)/\W.cell? ⟨w.heap.size,11,V⟩=U (.slice P.rW P.rV P.u_)/\W.cell? ⟨w.heap.size,12,V⟩=U (.slice P.rY P.rX P.ve)):=X fun W hb=>by
      have q:=FX.out W hb;exact⟨q.get (abr x P),q.get (abt x P),q.get (abu x P),q.get (abv x P),q.get (abw x P),q.get (abx x P),q.get (Ow x P),q.get (Ox x P),q.get (Oy x P),q.get (Ot x P),q.get (Ou x P),q.get (Ov x P)⟩
     clear hv1 hv2;go_enter Tryz.func160,Tryz.ntmps160;go_wp2_with fail;refine(CZ.out _ bl).mono ?_;rintro e w2 ⟨rfl,hb2⟩;have q:=FX.out w2 bl;have p0:=q.get (Oq x P);clear q;go_wp2_with fail;refine(HB.out _ bl).mono ?_;rintro e w3 ⟨rfl,rfl⟩;go_wp2_with fail;go_region_held3 (fun W=>W.cell? ⟨w.heap.size,1,V⟩=U (.int .i64 x.up.op)/\W.cell? ⟨w.heap.size,2,V⟩=U (.int .i64 x.up.a)/\W.cell? ⟨w.heap.size,3,V⟩=U (.int .i64 x.up.b)/\W.cell? ⟨w.heap.size,4,V⟩=U (.int .i64 x.up.n)/\W.cell? ⟨w.heap.size,5,V⟩=U (.slice P.tu P.sZ P.vX)/\W.cell? ⟨w.heap.size,6,V⟩=U (.slice P.tF P.tC P.vY)/\W.cell? ⟨w.heap.size,7,V⟩=U (.int .i64 x.dn.op)/\W.cell? ⟨w.heap.size,8,V⟩=U (.int .i64 x.dn.a)/\W.cell? ⟨w.heap.size,9,V⟩=U (.int .i64 x.dn.b)/\W.cell? ⟨w.heap.size,10,V⟩=U (.int .i64 x.dn.n)/\W.cell? ⟨w.heap.size,11,V⟩=U (.slice P.rW P.rV P.u_)/\W.cell? ⟨w.heap.size,12,V⟩=U (.slice P.rY P.rX P.ve)) (first|(refine FY.out _ ?_;exact bl;done)|(go_keep;done)) (first
      | (have t:=hb5;go_at_call 34;refine(p_ [v1,v2] _ 2 2 _ rfl (by omega) (X (Aq _ _ _ _))).mono ?_;rintro e w9 ⟨rfl,rfl⟩)
      | (have t:=hb4;go_at_call 91;refine(CN.out _ bl).mono ?_;rintro e w5 ⟨rfl,hb5⟩)
      | (go_at_call 91;refine(CU.out _ bl).mono ?_;rintro e w4 ⟨rfl,hb4⟩))
     all_goals
      have Ir:=X hb5;go_wp2_with fail;go_ret;exact⟨by rw[← Bc];rfl,bl⟩
end Md
namespace Md
open Go.RowKit Go.Maps
open Na (Strs)
open Sm (dR p_)
open Ex (Lo Gives)
attribute [local go_sem] Np Jc Jd
set_option maxHeartbeats 4000000
set_option maxRecDepth 100000 in
theorem ajY (x:dm) (P:eO) (sm:List ByteArray) (p:Option Addr) (m c:Nat) (w:ah) (hx:m_ (Lo w.heap.size) w x P) (hs:Strs w p m sm):ag ae 111 #[.agg (dI x P),.slice p m c] w (Gives (.int .i64 (Bg sm x)) w):=by
 have HX:=X hx;have HS:=X hs;have FX:=far (w:=w) 111 (dI x P);obtain⟨u,hu⟩:∃b,JX x.un=b:=⟨_,rfl⟩
 have CI:=X (fun W=>(show ag ae 158 #[.int .i64 x.un] W (qA (.bool u) W) by rw[← hu];exact acN _ W))
 cases u with
 | false=>
  rw[show Bg sm x=2 by unfold Bg;rw[hu];rfl];clear hx hs hu;go_enter Tryz.func111,Tryz.ntmps111;go_wp2_with fail;refine(CI.out _).mono ?_;rintro e w2 ⟨rfl,rfl⟩;go_wp2_with fail;go_ret;exact⟨rfl,bl⟩
 | true=>
  obtain⟨v1,hv1⟩:∃v,uy x.sh x.cy=v:=⟨_,rfl⟩
  obtain⟨v2,hv2⟩:∃v,zo x sm=v:=⟨_,rfl⟩
  rw[show Bg sm x=dR v1 v2 by unfold Bg;rw[hu,hv1,hv2];rfl];have CS:=X (fun W (hW:Below w.heap.size w W)=>(show ag ae 159 #[.slice P.yE P.Bq P.zR,.int .i64 x.cy] W (Gives (.int .i64 v1) W) by rw[← hv1];exact aj0 _ _ _ _ _ W (HX.out.sh.on iU.map hW)));have CF:=X (fun W (hW:Below w.heap.size w W)=>(show ag ae 160 #[.agg (j6 x P),.slice p m c] W (Gives (.int .i64 v2) W) by rw[← hv2];exact ajT x P sm p m c W (HX.out.Ay.on hW) (HS.out.on hW)));have FK:Hid (∀W,Below (w.alloc (.cells (dI x P) 111)).heap.size (w.alloc (.cells (dI x P) 111)) W->W.cell? ⟨w.heap.size,2,V⟩=U (.slice P.yE P.Bq P.zR)/\W.cell? ⟨w.heap.size,3,V⟩=U (.int .i64 x.cy)/\W.cell? ⟨w.heap.size,4,V⟩=U (.string x.fs)/\W.cell? ⟨w.heap.size,5,V⟩=U (.int .i64 x.up.op)/\W.cell? ⟨w.heap.size,6,V⟩=U (.int .i64 x.up.a)/\W.cell? ⟨w.heap.size,7,V⟩=U (.int .i64 x.up.b)/\W.cell? ⟨w.heap.size,8,V⟩=U (.int .i64 x.up.n)/\W.cell? ⟨w.heap.size,9,V⟩=U (.slice P.tu P.sZ P.vX)/\W.cell? ⟨w.heap.size,10,V⟩=U (.slice P.tF P.tC P.vY)/\W.cell? ⟨w.heap.size,11,V⟩=U (.int .i64 x.dn.op)/\W.cell? ⟨w.heap.size,12,V⟩=U (.int .i64 x.dn.a)/\W.cell? ⟨w.heap.size,13,V⟩=U (.int .i64 x.dn.b)/\W.cell? ⟨w.heap.size,14,V⟩=U (.int .i64 x.dn.n)/\W.cell? ⟨w.heap.size,15,V⟩=U (.slice P.rW P.rV P.u_)/\W.cell? ⟨w.heap.size,16,V⟩=U (.slice P.rY P.rX P.ve)):=X fun W hb=>by
   have q:=FX.out W hb;exact⟨q.get (Jc x P),q.get (Jd x P),q.get (Nz x P),q.get (NA x P),q.get (NB x P),q.get (NC x P),q.get (ND x P),q.get (NF x P),q.get (Nq x P),q.get (Nr x P),q.get (Ns x P),q.get (Nt x P),q.get (Nv x P),q.get (Nw x P),q.get (Ny x P)⟩
  clear hx hs hu hv1 hv2;go_enter Tryz.func111,Tryz.ntmps111;go_wp2_with fail;refine(CI.out _).mono ?_;rintro e w2 ⟨rfl,rfl⟩;go_wp2_with fail;go_region_held3 (fun W=>W.cell? ⟨w.heap.size,2,V⟩=U (.slice P.yE P.Bq P.zR)/\W.cell? ⟨w.heap.size,3,V⟩=U (.int .i64 x.cy)/\W.cell? ⟨w.heap.size,4,V⟩=U (.string x.fs)/\W.cell? ⟨w.heap.size,5,V⟩=U (.int .i64 x.up.op)/\W.cell? ⟨w.heap.size,6,V⟩=U (.int .i64 x.up.a)/\W.cell? ⟨w.heap.size,7,V⟩=U (.int .i64 x.up.b)/\W.cell? ⟨w.heap.size,8,V⟩=U (.int .i64 x.up.n)/\W.cell? ⟨w.heap.size,9,V⟩=U (.slice P.tu P.sZ P.vX)/\W.cell? ⟨w.heap.size,10,V⟩=U (.slice P.tF P.tC P.vY)/\W.cell? ⟨w.heap.size,11,V⟩=U (.int .i64 x.dn.op)/\W.cell? ⟨w.heap.size,12,V⟩=U (.int .i64 x.dn.a)/\W.cell? ⟨w.heap.size,13,V⟩=U (.int .i64 x.dn.b)/\W.cell? ⟨w.heap.size,14,V⟩=U (.int .i64 x.dn.n)/\W.cell? ⟨w.heap.size,15,V⟩=U (.slice P.rW P.rV P.u_)/\W.cell? ⟨w.heap.size,16,V⟩=U (.slice P.rY P.rX P.ve)) (first|(refine FK.out _ ?_;exact bl;done)|(go_keep;done)) (first
   | (have t:=hb3;go_at_call 34;refine(p_ [v1,v2] _ 2 2 _ rfl (by omega) (X (Aq _ _ _ _))).mono ?_;rintro e w9 ⟨rfl,rfl⟩)
   | (have t:=hb2;go_at_call 160;refine(CF.out _ bl).mono ?_;rintro e w3 ⟨rfl,hb3⟩)
   | (go_at_call 159;refine(CS.out _ bl).mono ?_;rintro e w2 ⟨rfl,hb2⟩))
  all_goals
   have HB3:=X hb3;go_wp2_with fail;go_ret;exact⟨by rw[← Bc];rfl,bl⟩
end Md
end Go.Proofs.YtbgodajefaahdaaGreatDoor
