/-
  Parts of this proof: The contracts of the closures that declare a nam. The contracts of sameFault and checkFault.
-/
import Derived.Test.YtbgodajefaahdaaGreatDoorZECheck
import Derived.Test.YtbgodajefaahdaaGreatDoorZQVal
import Derived.Test.YtbgodajefaahdaaGreatDoorZESame
import Derived.Test.YtbgodajefaahdaaGreatDoorZPSame
set_option linter.unusedVariables false
open Go.Lib (hid)
namespace Go.Proofs.YtbgodajefaahdaaGreatDoor.Md
open Go.RowKit Go.Maps
open Go.Proofs.YtbgodajefaahdaaGreatDoor.Sm (orE orE_right orL or_any)
open Go.Proofs.YtbgodajefaahdaaGreatDoor.Ex (Gives block_lt)
attribute [local go_sem] cSto0 cBlt0 cRou0 cRes0 cSte0 cLw0
set_option maxHeartbeats 4000000
theorem cells2 (w:World) (t:TypeId) (r1 r2:Int):∀i,(h:i<[r1,r2].length)->(w.alloc (.cells #[.int .i64 r1,.int .i64 r2] t)).cell? ⟨w.heap.size,i,none⟩=some (.int .i64 [r1,r2][i]):=by
 intro i h;rw[World.cell?_alloc_mark]
 match i,h with
 | 0,_=>rfl
 | 1,_=>rfl
theorem orL2 (a b:Int):orL [a,b]=orE a b:=by unfold orL orL orL;rw[orE_right]
theorem cell_but {b:Nat} {w w2:World} (h:But b w w2) {g:Nat} {o:Nat} {v:Value} (hc:w.cell? ⟨g,o,none⟩=some v) (hg:g≠b):w2.cell? ⟨g,o,none⟩=some v:=
 (World.cell?_of_block (w:=w) (a:=⟨g,o,none⟩) (h.block g (block_lt hc) hg)).trans hc
theorem zEQ_1 {p:Prop} (h:p:=by assumption):p:=h
theorem zEQ_0 {p:Prop} (h:p:=by((repeat (first|(with_reducible exact But.refl _ _)|(with_reducible assumption)|(with_reducible apply But.alloc)|(with_reducible apply But.drewN)|(with_reducible apply But.drew)|(with_reducible refine But.trans ?_ zEQ_1)|(with_reducible refine But.then ?_ zEQ_1)));done)):p:=h
set_option maxRecDepth 100000 in
theorem clo_Sto (x:Sto) (b B1:Nat) (acc:List ByteArray) (w:World) (hS:Scp b acc w) (hn:acc.length<=100000) (hx:x.nm.size<=9223372036854775807) (hv:w.cell? ⟨B1,0,none⟩=some (.map (some b))) (hB:B1≠b)
 (tv:Int) (CT:Hid (∀W,But b w W->Calls Tryz.prog 114 #[.agg (cSto x)] W (Gives (.int .i64 tv) W))) :
 Calls Tryz.prog 113 #[.agg (cSto x),.pointer (some ⟨B1,0,none⟩)] w (Step b (orE (decE acc x.nm) tv,accS acc x.nm) w):=by
 have HS:=hid hS;have HLT:=hid hS.lt;have HV:=hid hv;obtain⟨acc2,h2⟩:∃a,accS acc x.nm=a:=⟨_,rfl⟩
 obtain⟨v,hd⟩:∃v,decE acc x.nm=v:=⟨_,rfl⟩
 rw[h2,hd];have CD:=hid (fun W (hW:Scp b acc W)=>declare_at hd h2 W hW hn hx);obtain⟨kk,hkk⟩:∃n:Nat,3=n:=⟨_,rfl⟩
 have hsz:∀w,(sizeOf 114).run Tryz.prog w=.ok kk w:=fun w=>by rw[Tryz.sizeOf114,hkk]
 have HKK:=hid hkk;have FK:Hid (∀W,But b (w.alloc (.cells (cSto x) 114)) W->W.cell? ⟨B1,0,none⟩=some (.map (some b))/\W.cell? ⟨w.heap.size,0,none⟩=some (.string x.nm)/\(loadCellsFrom ⟨w.heap.size,0,none⟩ 0 kk #[]).run Tryz.prog W=.ok (cSto x) W):=hid fun W hb=>by
  have q:=Box.new.but hb (show w.heap.size≠b by have:=HLT.out;omega);exact⟨cell_but hb ((World.cell?_alloc_lt _ _ _ (block_lt HV.out)).trans HV.out) hB,q.get (cSto0 x),q.cell.ldN HKK.out⟩
 clear hS hd h2 hv hkk;go_enter Tryz.func113,Tryz.ntmps113;go_wp2_with fail;go_region_held3 (fun W=>W.cell? ⟨B1,0,none⟩=some (.map (some b))/\W.cell? ⟨w.heap.size,0,none⟩=some (.string x.nm)/\(loadCellsFrom ⟨w.heap.size,0,none⟩ 0 kk #[]).run Tryz.prog W=.ok (cSto x) W) (first|(refine FK.out _ ?_;((repeat (first|(with_reducible exact But.refl _ _)|(with_reducible assumption)|(with_reducible apply But.alloc)|(with_reducible apply But.drewN)|(with_reducible apply But.drew)|(with_reducible refine But.trans ?_ zEQ_1)|(with_reducible refine But.then ?_ zEQ_1)));done))|(go_keep;done)) (first
  | (have t:=hb3;go_at_call 34;refine(or_any [v,tv] _ 2 2 _ rfl (by omega) (hid (cells2 _ _ _ _))).mono ?_;rintro e w9 ⟨rfl,rfl⟩)
  | (have t:=hb2;go_at_call 114;refine(CT.out _ zEQ_0).mono ?_;rintro e w3 ⟨rfl,hb3⟩)
  | (go_at_call 69;refine(CD.out _ (HS.out.on bl)).mono ?_;rintro e w2 ⟨rfl,hs2,hb2⟩))
 all_goals
  have HB3:=hid hb3;go_wp2_with fail;go_ret;exact⟨by rw[← orL2];rfl,hs2.on bl,by((repeat (first|(with_reducible exact But.refl _ _)|(with_reducible assumption)|(with_reducible apply But.alloc)|(with_reducible apply But.drewN)|(with_reducible apply But.drew)|(with_reducible refine But.trans ?_ zEQ_1)|(with_reducible refine But.then ?_ zEQ_1)));done)⟩
set_option maxRecDepth 100000 in
theorem clo_Blt (x:Blt) (b B1:Nat) (acc:List ByteArray) (w:World) (hS:Scp b acc w) (hn:acc.length<=100000) (hx:x.nm.size<=9223372036854775807) (hv:w.cell? ⟨B1,0,none⟩=some (.map (some b))) (hB:B1≠b)
 (tv:Int) (CT:Hid (∀W,But b w W->Calls Tryz.prog 117 #[.agg (cBlt x)] W (Gives (.int .i64 tv) W))) :
 Calls Tryz.prog 116 #[.agg (cBlt x),.pointer (some ⟨B1,0,none⟩)] w (Step b (orE (decE acc x.nm) tv,accS acc x.nm) w):=by
 have HS:=hid hS;have HLT:=hid hS.lt;have HV:=hid hv;obtain⟨acc2,h2⟩:∃a,accS acc x.nm=a:=⟨_,rfl⟩
 obtain⟨v,hd⟩:∃v,decE acc x.nm=v:=⟨_,rfl⟩
 rw[h2,hd];have CD:=hid (fun W (hW:Scp b acc W)=>declare_at hd h2 W hW hn hx);obtain⟨kk,hkk⟩:∃n:Nat,3=n:=⟨_,rfl⟩
 have hsz:∀w,(sizeOf 116).run Tryz.prog w=.ok kk w:=fun w=>by rw[Tryz.sizeOf116,hkk]
 have HKK:=hid hkk;have FK:Hid (∀W,But b (w.alloc (.cells (cBlt x) 116)) W->W.cell? ⟨B1,0,none⟩=some (.map (some b))/\W.cell? ⟨w.heap.size,0,none⟩=some (.string x.nm)/\(loadCellsFrom ⟨w.heap.size,0,none⟩ 0 kk #[]).run Tryz.prog W=.ok (cBlt x) W):=hid fun W hb=>by
  have q:=Box.new.but hb (show w.heap.size≠b by have:=HLT.out;omega);exact⟨cell_but hb ((World.cell?_alloc_lt _ _ _ (block_lt HV.out)).trans HV.out) hB,q.get (cBlt0 x),q.cell.ldN HKK.out⟩
 clear hS hd h2 hv hkk;go_enter Tryz.func116,Tryz.ntmps116;go_wp2_with fail;go_region_held3 (fun W=>W.cell? ⟨B1,0,none⟩=some (.map (some b))/\W.cell? ⟨w.heap.size,0,none⟩=some (.string x.nm)/\(loadCellsFrom ⟨w.heap.size,0,none⟩ 0 kk #[]).run Tryz.prog W=.ok (cBlt x) W) (first|(refine FK.out _ ?_;((repeat (first|(with_reducible exact But.refl _ _)|(with_reducible assumption)|(with_reducible apply But.alloc)|(with_reducible apply But.drewN)|(with_reducible apply But.drew)|(with_reducible refine But.trans ?_ zEQ_1)|(with_reducible refine But.then ?_ zEQ_1)));done))|(go_keep;done)) (first
  | (have t:=hb3;go_at_call 34;refine(or_any [v,tv] _ 2 2 _ rfl (by omega) (hid (cells2 _ _ _ _))).mono ?_;rintro e w9 ⟨rfl,rfl⟩)
  | (have t:=hb2;go_at_call 117;refine(CT.out _ zEQ_0).mono ?_;rintro e w3 ⟨rfl,hb3⟩)
  | (go_at_call 69;refine(CD.out _ (HS.out.on bl)).mono ?_;rintro e w2 ⟨rfl,hs2,hb2⟩))
 all_goals
  have HB3:=hid hb3;go_wp2_with fail;go_ret;exact⟨by rw[← orL2];rfl,hs2.on bl,by((repeat (first|(with_reducible exact But.refl _ _)|(with_reducible assumption)|(with_reducible apply But.alloc)|(with_reducible apply But.drewN)|(with_reducible apply But.drew)|(with_reducible refine But.trans ?_ zEQ_1)|(with_reducible refine But.then ?_ zEQ_1)));done)⟩
set_option maxRecDepth 100000 in
theorem clo_Rou (x:Rou) (P:PRou) (b B1:Nat) (acc:List ByteArray) (w:World) (hS:Scp b acc w) (hn:acc.length<=100000) (hx:x.nm.size<=9223372036854775807) (hv:w.cell? ⟨B1,0,none⟩=some (.map (some b))) (hB:B1≠b)
 (tv:Int) (CT:Hid (∀W,But b w W->Calls Tryz.prog 121 #[.agg (cRou x P)] W (Gives (.int .i64 tv) W))) :
 Calls Tryz.prog 120 #[.agg (cRou x P),.pointer (some ⟨B1,0,none⟩)] w (Step b (orE (decE acc x.nm) tv,accS acc x.nm) w):=by
 have HS:=hid hS;have HLT:=hid hS.lt;have HV:=hid hv;obtain⟨acc2,h2⟩:∃a,accS acc x.nm=a:=⟨_,rfl⟩
 obtain⟨v,hd⟩:∃v,decE acc x.nm=v:=⟨_,rfl⟩
 rw[h2,hd];have CD:=hid (fun W (hW:Scp b acc W)=>declare_at hd h2 W hW hn hx);obtain⟨kk,hkk⟩:∃n:Nat,4=n:=⟨_,rfl⟩
 have hsz:∀w,(sizeOf 119).run Tryz.prog w=.ok kk w:=fun w=>by rw[Tryz.sizeOf119,hkk]
 have HKK:=hid hkk;have FK:Hid (∀W,But b (w.alloc (.cells (cRou x P) 119)) W->W.cell? ⟨B1,0,none⟩=some (.map (some b))/\W.cell? ⟨w.heap.size,0,none⟩=some (.string x.nm)/\(loadCellsFrom ⟨w.heap.size,0,none⟩ 0 kk #[]).run Tryz.prog W=.ok (cRou x P) W):=hid fun W hb=>by
  have q:=Box.new.but hb (show w.heap.size≠b by have:=HLT.out;omega);exact⟨cell_but hb ((World.cell?_alloc_lt _ _ _ (block_lt HV.out)).trans HV.out) hB,q.get (cRou0 x P),q.cell.ldN HKK.out⟩
 clear hS hd h2 hv hkk;go_enter Tryz.func120,Tryz.ntmps120;go_wp2_with fail;go_region_held3 (fun W=>W.cell? ⟨B1,0,none⟩=some (.map (some b))/\W.cell? ⟨w.heap.size,0,none⟩=some (.string x.nm)/\(loadCellsFrom ⟨w.heap.size,0,none⟩ 0 kk #[]).run Tryz.prog W=.ok (cRou x P) W) (first|(refine FK.out _ ?_;((repeat (first|(with_reducible exact But.refl _ _)|(with_reducible assumption)|(with_reducible apply But.alloc)|(with_reducible apply But.drewN)|(with_reducible apply But.drew)|(with_reducible refine But.trans ?_ zEQ_1)|(with_reducible refine But.then ?_ zEQ_1)));done))|(go_keep;done)) (first
  | (have t:=hb3;go_at_call 34;refine(or_any [v,tv] _ 2 2 _ rfl (by omega) (hid (cells2 _ _ _ _))).mono ?_;rintro e w9 ⟨rfl,rfl⟩)
  | (have t:=hb2;go_at_call 121;refine(CT.out _ zEQ_0).mono ?_;rintro e w3 ⟨rfl,hb3⟩)
  | (go_at_call 69;refine(CD.out _ (HS.out.on bl)).mono ?_;rintro e w2 ⟨rfl,hs2,hb2⟩))
 all_goals
  have HB3:=hid hb3;go_wp2_with fail;go_ret;exact⟨by rw[← orL2];rfl,hs2.on bl,by((repeat (first|(with_reducible exact But.refl _ _)|(with_reducible assumption)|(with_reducible apply But.alloc)|(with_reducible apply But.drewN)|(with_reducible apply But.drew)|(with_reducible refine But.trans ?_ zEQ_1)|(with_reducible refine But.then ?_ zEQ_1)));done)⟩
set_option maxRecDepth 100000 in
theorem clo_Ste (x:Ste) (P:PSte) (b B1:Nat) (acc:List ByteArray) (w:World) (hS:Scp b acc w) (hn:acc.length<=100000) (hx:x.nm.size<=9223372036854775807) (hv:w.cell? ⟨B1,0,none⟩=some (.map (some b))) (hB:B1≠b)
 (tv:Int) (CT:Hid (∀W,But b w W->Calls Tryz.prog 74 #[.agg (cSte x P)] W (Gives (.int .i64 tv) W))) :
 Calls Tryz.prog 73 #[.agg (cSte x P),.pointer (some ⟨B1,0,none⟩)] w (Step b (orE (decE acc x.nm) tv,accS acc x.nm) w):=by
 have HS:=hid hS;have HLT:=hid hS.lt;have HV:=hid hv;obtain⟨acc2,h2⟩:∃a,accS acc x.nm=a:=⟨_,rfl⟩
 obtain⟨v,hd⟩:∃v,decE acc x.nm=v:=⟨_,rfl⟩
 rw[h2,hd];have CD:=hid (fun W (hW:Scp b acc W)=>declare_at hd h2 W hW hn hx);obtain⟨kk,hkk⟩:∃n:Nat,13=n:=⟨_,rfl⟩
 have hsz:∀w,(sizeOf 53).run Tryz.prog w=.ok kk w:=fun w=>by rw[Tryz.sizeOf53,hkk]
 have HKK:=hid hkk;have FK:Hid (∀W,But b (w.alloc (.cells (cSte x P) 53)) W->W.cell? ⟨B1,0,none⟩=some (.map (some b))/\W.cell? ⟨w.heap.size,0,none⟩=some (.string x.nm)/\(loadCellsFrom ⟨w.heap.size,0,none⟩ 0 kk #[]).run Tryz.prog W=.ok (cSte x P) W):=hid fun W hb=>by
  have q:=Box.new.but hb (show w.heap.size≠b by have:=HLT.out;omega);exact⟨cell_but hb ((World.cell?_alloc_lt _ _ _ (block_lt HV.out)).trans HV.out) hB,q.get (cSte0 x P),q.cell.ldN HKK.out⟩
 clear hS hd h2 hv hkk;go_enter Tryz.func73,Tryz.ntmps73;go_wp2_with fail;go_region_held3 (fun W=>W.cell? ⟨B1,0,none⟩=some (.map (some b))/\W.cell? ⟨w.heap.size,0,none⟩=some (.string x.nm)/\(loadCellsFrom ⟨w.heap.size,0,none⟩ 0 kk #[]).run Tryz.prog W=.ok (cSte x P) W) (first|(refine FK.out _ ?_;((repeat (first|(with_reducible exact But.refl _ _)|(with_reducible assumption)|(with_reducible apply But.alloc)|(with_reducible apply But.drewN)|(with_reducible apply But.drew)|(with_reducible refine But.trans ?_ zEQ_1)|(with_reducible refine But.then ?_ zEQ_1)));done))|(go_keep;done)) (first
  | (have t:=hb3;go_at_call 34;refine(or_any [v,tv] _ 2 2 _ rfl (by omega) (hid (cells2 _ _ _ _))).mono ?_;rintro e w9 ⟨rfl,rfl⟩)
  | (have t:=hb2;go_at_call 74;refine(CT.out _ zEQ_0).mono ?_;rintro e w3 ⟨rfl,hb3⟩)
  | (go_at_call 69;refine(CD.out _ (HS.out.on bl)).mono ?_;rintro e w2 ⟨rfl,hs2,hb2⟩))
 all_goals
  have HB3:=hid hb3;go_wp2_with fail;go_ret;exact⟨by rw[← orL2];rfl,hs2.on bl,by((repeat (first|(with_reducible exact But.refl _ _)|(with_reducible assumption)|(with_reducible apply But.alloc)|(with_reducible apply But.drewN)|(with_reducible apply But.drew)|(with_reducible refine But.trans ?_ zEQ_1)|(with_reducible refine But.then ?_ zEQ_1)));done)⟩
set_option maxRecDepth 100000 in
theorem clo_Res (x:Res) (P:PRes) (b B1:Nat) (acc:List ByteArray) (w:World) (hS:Scp b acc w) (hn:acc.length<=100000) (hx:x.nm.size<=9223372036854775807) (hv:w.cell? ⟨B1,0,none⟩=some (.map (some b))) (hB:B1≠b) (B2:Nat) (sp:Option Addr) (sm sc:Nat) (hu:w.cell? ⟨B2,6,none⟩=some (.slice sp sm sc)) (hB2:B2≠b)
 (tv:Int) (CT:Hid (∀W,But b w W->Calls Tryz.prog 111 #[.agg (cRes x P),.slice sp sm sc] W (Gives (.int .i64 tv) W))) :
 Calls Tryz.prog 110 #[.agg (cRes x P),.pointer (some ⟨B1,0,none⟩),.pointer (some ⟨B2,0,none⟩)] w (Step b (orE (decE acc x.nm) tv,accS acc x.nm) w):=by
 have HS:=hid hS;have HLT:=hid hS.lt;have HV:=hid hv;have HU:=hid hu;obtain⟨acc2,h2⟩:∃a,accS acc x.nm=a:=⟨_,rfl⟩
 obtain⟨v,hd⟩:∃v,decE acc x.nm=v:=⟨_,rfl⟩
 rw[h2,hd];have CD:=hid (fun W (hW:Scp b acc W)=>declare_at hd h2 W hW hn hx);obtain⟨kk,hkk⟩:∃n:Nat,17=n:=⟨_,rfl⟩
 have hsz:∀w,(sizeOf 111).run Tryz.prog w=.ok kk w:=fun w=>by rw[Tryz.sizeOf111,hkk]
 have HKK:=hid hkk;have FK:Hid (∀W,But b (w.alloc (.cells (cRes x P) 111)) W->W.cell? ⟨B1,0,none⟩=some (.map (some b))/\W.cell? ⟨w.heap.size,0,none⟩=some (.string x.nm)/\(loadCellsFrom ⟨w.heap.size,0,none⟩ 0 kk #[]).run Tryz.prog W=.ok (cRes x P) W/\W.cell? ⟨B2,6,none⟩=some (.slice sp sm sc)):=hid fun W hb=>by
  have q:=Box.new.but hb (show w.heap.size≠b by have:=HLT.out;omega);exact⟨cell_but hb ((World.cell?_alloc_lt _ _ _ (block_lt HV.out)).trans HV.out) hB,q.get (cRes0 x P),q.cell.ldN HKK.out,cell_but hb ((World.cell?_alloc_lt _ _ _ (block_lt HU.out)).trans HU.out) hB2⟩
 clear hS hd h2 hv hkk hu;go_enter Tryz.func110,Tryz.ntmps110;go_wp2_with fail;go_region_held3 (fun W=>W.cell? ⟨B1,0,none⟩=some (.map (some b))/\W.cell? ⟨w.heap.size,0,none⟩=some (.string x.nm)/\(loadCellsFrom ⟨w.heap.size,0,none⟩ 0 kk #[]).run Tryz.prog W=.ok (cRes x P) W/\W.cell? ⟨B2,6,none⟩=some (.slice sp sm sc)) (first|(refine FK.out _ ?_;((repeat (first|(with_reducible exact But.refl _ _)|(with_reducible assumption)|(with_reducible apply But.alloc)|(with_reducible apply But.drewN)|(with_reducible apply But.drew)|(with_reducible refine But.trans ?_ zEQ_1)|(with_reducible refine But.then ?_ zEQ_1)));done))|(go_keep;done)) (first
  | (have t:=hb3;go_at_call 34;refine(or_any [v,tv] _ 2 2 _ rfl (by omega) (hid (cells2 _ _ _ _))).mono ?_;rintro e w9 ⟨rfl,rfl⟩)
  | (have t:=hb2;go_at_call 111;refine(CT.out _ zEQ_0).mono ?_;rintro e w3 ⟨rfl,hb3⟩)
  | (go_at_call 69;refine(CD.out _ (HS.out.on bl)).mono ?_;rintro e w2 ⟨rfl,hs2,hb2⟩))
 all_goals
  have HB3:=hid hb3;go_wp2_with fail;go_ret;exact⟨by rw[← orL2];rfl,hs2.on bl,by((repeat (first|(with_reducible exact But.refl _ _)|(with_reducible assumption)|(with_reducible apply But.alloc)|(with_reducible apply But.drewN)|(with_reducible apply But.drew)|(with_reducible refine But.trans ?_ zEQ_1)|(with_reducible refine But.then ?_ zEQ_1)));done)⟩
set_option maxRecDepth 100000 in
theorem clo_Lw (x:Lw) (P:PLw) (b B1:Nat) (acc:List ByteArray) (w:World) (hS:Scp b acc w) (hn:acc.length<=100000) (hx:x.nm.size<=9223372036854775807) (hv:w.cell? ⟨B1,0,none⟩=some (.map (some b))) (hB:B1≠b) (B2:Nat) (d:Array Value) (hds:d.size=13) (hu:Box w B2 53 d) (hB2:B2≠b)
 (tv:Int) (CT:Hid (∀W,But b w W->Calls Tryz.prog 167 #[.agg d,.agg (cLw x P)] W (Gives (.int .i64 tv) W))) :
 Calls Tryz.prog 166 #[.agg (cLw x P),.pointer (some ⟨B1,0,none⟩),.pointer (some ⟨B2,0,none⟩)] w (Step b (orE (decE acc x.nm) tv,accS acc x.nm) w):=by
 have HS:=hid hS;have HLT:=hid hS.lt;have HV:=hid hv;have HU:=hid hu;obtain⟨k2,hk2⟩:∃n:Nat,13=n:=⟨_,rfl⟩
 have hsz2:∀w,(sizeOf 53).run Tryz.prog w=.ok k2 w:=fun w=>by rw[Tryz.sizeOf53,hk2]
 have HK2:=hid (show d.size=k2 from hds.trans hk2);obtain⟨acc2,h2⟩:∃a,accS acc x.nm=a:=⟨_,rfl⟩
 obtain⟨v,hd⟩:∃v,decE acc x.nm=v:=⟨_,rfl⟩
 rw[h2,hd];have CD:=hid (fun W (hW:Scp b acc W)=>declare_at hd h2 W hW hn hx);obtain⟨kk,hkk⟩:∃n:Nat,3=n:=⟨_,rfl⟩
 have hsz:∀w,(sizeOf 127).run Tryz.prog w=.ok kk w:=fun w=>by rw[Tryz.sizeOf127,hkk]
 have HKK:=hid hkk;have FK:Hid (∀W,But b (w.alloc (.cells (cLw x P) 127)) W->W.cell? ⟨B1,0,none⟩=some (.map (some b))/\W.cell? ⟨w.heap.size,0,none⟩=some (.string x.nm)/\(loadCellsFrom ⟨w.heap.size,0,none⟩ 0 kk #[]).run Tryz.prog W=.ok (cLw x P) W/\(loadCellsFrom ⟨B2,0,none⟩ 0 k2 #[]).run Tryz.prog W=.ok d W):=hid fun W hb=>by
  have q:=Box.new.but hb (show w.heap.size≠b by have:=HLT.out;omega);exact⟨cell_but hb ((World.cell?_alloc_lt _ _ _ (block_lt HV.out)).trans HV.out) hB,q.get (cLw0 x P),q.cell.ldN HKK.out,((HU.out.on (show Below w.heap.size w _ by exact bl)).but hb hB2).cell.ldN HK2.out⟩
 clear hS hd h2 hv hkk hu hk2 hds;go_enter Tryz.func166,Tryz.ntmps166;go_wp2_with fail;go_region_held3 (fun W=>W.cell? ⟨B1,0,none⟩=some (.map (some b))/\W.cell? ⟨w.heap.size,0,none⟩=some (.string x.nm)/\(loadCellsFrom ⟨w.heap.size,0,none⟩ 0 kk #[]).run Tryz.prog W=.ok (cLw x P) W/\(loadCellsFrom ⟨B2,0,none⟩ 0 k2 #[]).run Tryz.prog W=.ok d W) (first|(refine FK.out _ ?_;((repeat (first|(with_reducible exact But.refl _ _)|(with_reducible assumption)|(with_reducible apply But.alloc)|(with_reducible apply But.drewN)|(with_reducible apply But.drew)|(with_reducible refine But.trans ?_ zEQ_1)|(with_reducible refine But.then ?_ zEQ_1)));done))|(go_keep;done)) (first
  | (have t:=hb3;go_at_call 34;refine(or_any [v,tv] _ 2 2 _ rfl (by omega) (hid (cells2 _ _ _ _))).mono ?_;rintro e w9 ⟨rfl,rfl⟩)
  | (have t:=hb2;go_at_call 167;refine(CT.out _ zEQ_0).mono ?_;rintro e w3 ⟨rfl,hb3⟩)
  | (go_at_call 69;refine(CD.out _ (HS.out.on bl)).mono ?_;rintro e w2 ⟨rfl,hs2,hb2⟩))
 all_goals
  have HB3:=hid hb3;go_wp2_with fail;go_ret;exact⟨by rw[← orL2];rfl,hs2.on bl,by((repeat (first|(with_reducible exact But.refl _ _)|(with_reducible assumption)|(with_reducible apply But.alloc)|(with_reducible apply But.drewN)|(with_reducible apply But.drew)|(with_reducible refine But.trans ?_ zEQ_1)|(with_reducible refine But.then ?_ zEQ_1)));done)⟩
end Go.Proofs.YtbgodajefaahdaaGreatDoor.Md
namespace Go.Proofs.YtbgodajefaahdaaGreatDoor.Md
open Go.RowKit Go.Maps
open Go.Proofs.YtbgodajefaahdaaGreatDoor.Na (bs Strs fst)
open Go.Proofs.YtbgodajefaahdaaGreatDoor.Sm (Dt sameDt zD nE dtE sameD_list Ints orE or_any)
open Go.Proofs.YtbgodajefaahdaaGreatDoor.Ex (Lo Gives)
set_option maxHeartbeats 4000000
abbrev dv (d:Dt) (vp:Option Addr) (vm vc:Nat) (wp:Option Addr) (wm wc:Nat):Value:=.agg #[.int .i64 d.op,.int .i64 d.a,.int .i64 d.b,.int .i64 d.n,.slice vp vm vc,.slice wp wm wc]
theorem dsame_at {G H:Nat->Prop} {w:World} (d e:Dt) (vp:Option Addr) (vm vc:Nat) (wp:Option Addr) (wm wc:Nat) (vp':Option Addr) (vm' vc':Nat) (wp':Option Addr) (wm' wc':Nat) (h1:Ints G w d.vs vp vm) (h2:Ints G w d.ws wp wm) (h3:Ints H w e.vs vp' vm') (h4:Ints H w e.ws wp' wm'):Calls Tryz.prog 137 #[dv d vp vm vc wp wm wc,dv e vp' vm' vc' wp' wm' wc'] w (Gives (.bool (sameDt d e)) w):=by
 have h:=Di.same_any d.op d.a d.b d.n vp d.vs.length vc wp d.ws.length wc _ _ e.op e.a e.b e.n vp' e.vs.length vc' wp' e.ws.length wc' _ _ w h1.row h2.row h3.row h4.row;rw[sameD_list,h1.1,h2.1,h3.1,h4.1] at h;exact h
theorem dcheck_at {G:Nat->Prop} {w:World} (d:Dt) (vp:Option Addr) (vm vc:Nat) (wp:Option Addr) (wm wc:Nat) (h1:Ints G w d.vs vp vm) (h2:Ints G w d.ws wp wm):Calls Tryz.prog 91 #[dv d vp vm vc wp wm wc] w (Gives (.int .i64 (dtE d)) w):=by
 have h:=Di.check_any d.op d.a d.b d.n vp d.vs.length vc wp d.ws.length wc _ _ w h1.row h2.row;rw[show dtE d=Di.errD d.op d.a d.b d.n d.vs.length d.ws.length (fun i=>d.vs.getD i 0) (fun i=>d.ws.getD i 0) from rfl];rw[h1.1,h2.1] at h ⊢;exact h
def cFlt (x:Res) (P:PRes):Array Value:=#[.string x.fs,.int .i64 x.up.op,.int .i64 x.up.a,.int .i64 x.up.b,.int .i64 x.up.n,.slice P.upvp P.upvm P.upvc,.slice P.upwp P.upwm P.upwc,.int .i64 x.dn.op,.int .i64 x.dn.a,.int .i64 x.dn.b,.int .i64 x.dn.n,.slice P.dnvp P.dnvm P.dnvc,.slice P.dnwp P.dnwm P.dnwc]
theorem flt_in (x:Res) (P:PRes):∀r v,(cFlt x P)[r]?=some v->(cRes x P)[4+r]?=some v:=by
 intro r v h;have hr:r<13:=(Array.getElem?_eq_some_iff.1 h).1
 match r,hr with
 | 0,_=>exact h
 | 1,_=>exact h
 | 2,_=>exact h
 | 3,_=>exact h
 | 4,_=>exact h
 | 5,_=>exact h
 | 6,_=>exact h
 | 7,_=>exact h
 | 8,_=>exact h
 | 9,_=>exact h
 | 10,_=>exact h
 | 11,_=>exact h
 | 12,_=>exact h
theorem At.flt {w:World} {g o:Nat} {x:Res} {P:PRes} (h:At w g o (cRes x P)):At w g (o+4) (cFlt x P):=fun r v hv=>by
 rw[show o+4+r=o+(4+r) by omega];exact h _ _ (flt_in x P r v hv)
theorem flt0 (x:Res) (P:PRes):(cFlt x P)[0]?=some (.string x.fs):=rfl
theorem flt1 (x:Res) (P:PRes):(cFlt x P)[1]?=some (.int .i64 x.up.op):=rfl
theorem flt2 (x:Res) (P:PRes):(cFlt x P)[2]?=some (.int .i64 x.up.a):=rfl
theorem flt3 (x:Res) (P:PRes):(cFlt x P)[3]?=some (.int .i64 x.up.b):=rfl
theorem flt4 (x:Res) (P:PRes):(cFlt x P)[4]?=some (.int .i64 x.up.n):=rfl
theorem flt5 (x:Res) (P:PRes):(cFlt x P)[5]?=some (.slice P.upvp P.upvm P.upvc):=rfl
theorem flt6 (x:Res) (P:PRes):(cFlt x P)[6]?=some (.slice P.upwp P.upwm P.upwc):=rfl
theorem flt7 (x:Res) (P:PRes):(cFlt x P)[7]?=some (.int .i64 x.dn.op):=rfl
theorem flt8 (x:Res) (P:PRes):(cFlt x P)[8]?=some (.int .i64 x.dn.a):=rfl
theorem flt9 (x:Res) (P:PRes):(cFlt x P)[9]?=some (.int .i64 x.dn.b):=rfl
theorem flt10 (x:Res) (P:PRes):(cFlt x P)[10]?=some (.int .i64 x.dn.n):=rfl
theorem flt11 (x:Res) (P:PRes):(cFlt x P)[11]?=some (.slice P.dnvp P.dnvm P.dnvc):=rfl
theorem flt12 (x:Res) (P:PRes):(cFlt x P)[12]?=some (.slice P.dnwp P.dnwm P.dnwc):=rfl
attribute [local go_sem] flt0 flt1 flt2 flt3 flt4 flt5 flt6 flt7 flt8 flt9 flt10 flt11 flt12
structure OFlt (w:World) (x:Res) (P:PRes):Prop where
 uv:Ints (Lo w.heap.size) w x.up.vs P.upvp P.upvm
 uw:Ints (Lo w.heap.size) w x.up.ws P.upwp P.upwm
 dv:Ints (Lo w.heap.size) w x.dn.vs P.dnvp P.dnvm
 dw:Ints (Lo w.heap.size) w x.dn.ws P.dnwp P.dnwm
theorem OFlt.on {w w2:World} (hb:Below w.heap.size w w2) {x:Res} {P:PRes} (h:OFlt w x P):OFlt w2 x P:=⟨Ints.on hb h.uv,Ints.on hb h.uw,Ints.on hb h.dv,Ints.on hb h.dw⟩
theorem ORes.flt {w:World} {x:Res} {P:PRes} (h:ORes (Lo w.heap.size) w x P):OFlt w x P:=⟨h.upv,h.upw,h.dnv,h.dnw⟩
def zRes:Res:=⟨nE,0,[],0,nE,zD,zD⟩
def zPR:PRes:=⟨none,0,0,none,0,0,none,0,0,none,0,0,none,0,0⟩
theorem zFlt (w:World):OFlt w zRes zPR:=⟨⟨rfl,by decide,.inl rfl⟩,⟨rfl,by decide,.inl rfl⟩,⟨rfl,by decide,.inl rfl⟩,⟨rfl,by decide,.inl rfl⟩⟩
set_option maxRecDepth 100000 in
theorem sameFault_any (x y:Res) (P Q:PRes) (w:World) (hx:OFlt w x P) (hy:OFlt w y Q):Calls Tryz.prog 188 #[.agg (cFlt x P),.agg (cFlt y Q)] w (Gives (.bool (fuB x y)) w):=by
 have HX:=hid hx;have HY:=hid hy;have FX:=far2 (w:=w) 109 109 (cFlt x P) (cFlt y Q);clear hx hy;obtain⟨b1,h1⟩:∃b,txB x.fs y.fs=b:=⟨_,rfl⟩
 obtain⟨b2,h2⟩:∃b,sameDt x.up y.up=b:=⟨_,rfl⟩
 obtain⟨b3,h3⟩:∃b,sameDt x.dn y.dn=b:=⟨_,rfl⟩
 have hf:fuB x y=(b1&&b2&&b3):=by unfold fuB;rw[h1,h2,h3]
 rw[hf];have u1:(x.fs.toList==y.fs.toList)=b1:=by rw[tx_is];exact h1
 have C1:=hid (fun W (hW:Below w.heap.size w W)=>(show Calls Tryz.prog 137 #[.agg #[.int .i64 x.up.op,.int .i64 x.up.a,.int .i64 x.up.b,.int .i64 x.up.n,.slice P.upvp P.upvm P.upvc,.slice P.upwp P.upwm P.upwc],.agg #[.int .i64 y.up.op,.int .i64 y.up.a,.int .i64 y.up.b,.int .i64 y.up.n,.slice Q.upvp Q.upvm Q.upvc,.slice Q.upwp Q.upwm Q.upwc]] W (Gives (.bool b2) W) by rw[← h2];exact dsame_at x.up y.up _ _ _ _ _ _ _ _ _ _ _ _ (HX.out.on hW).uv (HX.out.on hW).uw (HY.out.on hW).uv (HY.out.on hW).uw));have C2:=hid (fun W (hW:Below w.heap.size w W)=>(show Calls Tryz.prog 137 #[.agg #[.int .i64 x.dn.op,.int .i64 x.dn.a,.int .i64 x.dn.b,.int .i64 x.dn.n,.slice P.dnvp P.dnvm P.dnvc,.slice P.dnwp P.dnwm P.dnwc],.agg #[.int .i64 y.dn.op,.int .i64 y.dn.a,.int .i64 y.dn.b,.int .i64 y.dn.n,.slice Q.dnvp Q.dnvm Q.dnvc,.slice Q.dnwp Q.dnwm Q.dnwc]] W (Gives (.bool b3) W) by rw[← h3];exact dsame_at x.dn y.dn _ _ _ _ _ _ _ _ _ _ _ _ (HX.out.on hW).dv (HX.out.on hW).dw (HY.out.on hW).dv (HY.out.on hW).dw));clear h1 h2 h3 hf
 cases b1 with
 | false=>
  go_enter Tryz.func188,Tryz.ntmps188;go_wp2_with fail;go_ret;exact⟨rfl,bl⟩
 | true=>
  go_enter Tryz.func188,Tryz.ntmps188;go_wp2_with fail;refine(C1.out _ bl).mono ?_;rintro e w2 ⟨rfl,hb2⟩
  cases b2 with
  | false=>
   go_wp2_with fail;go_ret;exact⟨rfl,bl⟩
  | true=>
   have q:=FX.out w2 bl;have p7:=q.1.get (flt7 x P);have p8:=q.1.get (flt8 x P);have p9:=q.1.get (flt9 x P);have p10:=q.1.get (flt10 x P);have p11:=q.1.get (flt11 x P);have p12:=q.1.get (flt12 x P);have r7:=q.2.get (flt7 y Q);have r8:=q.2.get (flt8 y Q);have r9:=q.2.get (flt9 y Q);have r10:=q.2.get (flt10 y Q);have r11:=q.2.get (flt11 y Q);have r12:=q.2.get (flt12 y Q);clear q;go_wp2_with fail;refine(C2.out _ bl).mono ?_;rintro e w3 ⟨rfl,hb3⟩;go_wp2_with fail;go_ret;exact⟨by simp,bl⟩
theorem emp_is (s:ByteArray):s.toList.isEmpty=txB s nE:=by
 rw[Lib.toList_data]
 show(bs s).isEmpty=_
 unfold txB
 cases bs s with
 | nil=>rfl
 | cons x t=>rfl
theorem fuB_zero (x:Res):fuB x zRes=(txB x.fs nE&&sameDt x.up zD&&sameDt x.dn zD):=rfl
set_option maxRecDepth 100000 in
theorem checkFault_any (x:Res) (P:PRes) (sm:List ByteArray) (p:Option Addr) (m c:Nat) (w:World) (hx:OFlt w x P) (hs:Strs w p m sm):Calls Tryz.prog 160 #[.agg (cFlt x P),.slice p m c] w (Gives (.int .i64 (fltE x sm)) w):=by
 have HX:=hid hx;have HS:=hid hs;have FX:=far (w:=w) 109 (cFlt x P);clear hx hs;obtain⟨b1,h1⟩:∃b,txB x.fs nE=b:=⟨_,rfl⟩
 obtain⟨z,hz⟩:∃b,fuB x zRes=b:=⟨_,rfl⟩
 obtain⟨kk,hkk⟩:∃n:Nat,13=n:=⟨_,rfl⟩
 have hsz:∀w,(sizeOf 109).run Tryz.prog w=.ok kk w:=fun w=>by rw[Tryz.sizeOf109,hkk]
 have HKK:=hid hkk;have ld:=fun W=>run_loadCellsFrom_new (P:=Tryz.prog) W 109 (cFlt x P) kk hkk;have CZ:=hid (fun W (hW:Below w.heap.size w W)=>(show Calls Tryz.prog 188 #[.agg (cFlt x P),.agg (cFlt zRes zPR)] W (Gives (.bool z) W) by rw[← hz];exact sameFault_any x zRes P zPR W (HX.out.on hW) (zFlt W)));have u1:x.fs.toList.isEmpty=b1:=by rw[emp_is];exact h1
 have HE:Hid (fltE x sm=if z then 0 else if b1 then 1 else if fst sm x.fs<0 then 5 else orE (dtE x.up) (dtE x.dn)):=hid (by
  unfold fltE;rw[← hz,fuB_zero];have hb:(bs x.fs=[])=(b1=true):=by rw[← h1];unfold txB;rw[decide_eq_true_eq]
  simp only[hb];cases b1
  · simp[h1]
  · simp only[h1,if_true,Bool.true_and,Bool.and_eq_true])
 have HB:=hid (fun W (hW:Below w.heap.size w W)=>Na.find_any p m c sm x.fs W (HS.out.on hW));have CU:=hid (fun W (hW:Below w.heap.size w W)=>dcheck_at x.up _ _ P.upvc _ _ P.upwc (HX.out.on hW).uv (HX.out.on hW).uw);have CN:=hid (fun W (hW:Below w.heap.size w W)=>dcheck_at x.dn _ _ P.dnvc _ _ P.dnwc (HX.out.on hW).dv (HX.out.on hW).dw);clear hkk h1 hz
 cases z with
 | true=>
  rw[show fltE x sm=0 from HE.out];go_enter Tryz.func160,Tryz.ntmps160;go_wp2_with fail;refine(CZ.out _ bl).mono ?_;rintro e w2 ⟨rfl,hb2⟩;go_wp2_with fail;go_ret;exact⟨rfl,bl⟩
 | false=>
  cases b1 with
  | true=>
   rw[show fltE x sm=1 from HE.out];go_enter Tryz.func160,Tryz.ntmps160;go_wp2_with fail;refine(CZ.out _ bl).mono ?_;rintro e w2 ⟨rfl,hb2⟩;have q:=FX.out w2 bl;have p0:=q.get (flt0 x P);clear q;go_wp2_with fail;go_ret;exact⟨rfl,bl⟩
  | false=>
   obtain⟨k,hk⟩:∃k,fst sm x.fs=k:=⟨_,rfl⟩
   rw[hk] at HB HE;clear hk;by_cases hk0:k<0
   · rw[show fltE x sm=5 by rw[HE.out];exact if_pos hk0];have d0:=decide_eq_true hk0;go_enter Tryz.func160,Tryz.ntmps160;go_wp2_with fail;refine(CZ.out _ bl).mono ?_;rintro e w2 ⟨rfl,hb2⟩;have q:=FX.out w2 bl;have p0:=q.get (flt0 x P);clear q;go_wp2_with fail;refine(HB.out _ bl).mono ?_;rintro e w3 ⟨rfl,rfl⟩;go_wp2_with fail;go_ret;exact⟨rfl,bl⟩
   · rw[show fltE x sm=orE (dtE x.up) (dtE x.dn) by rw[HE.out];exact if_neg hk0];have d0:=decide_eq_false hk0;obtain⟨v1,hv1⟩:∃v,dtE x.up=v:=⟨_,rfl⟩
     obtain⟨v2,hv2⟩:∃v,dtE x.dn=v:=⟨_,rfl⟩
     rw[hv1] at CU ⊢;rw[hv2] at CN ⊢;have FY:Hid (∀W,Below (w.alloc (.cells (cFlt x P) 109)).heap.size (w.alloc (.cells (cFlt x P) 109)) W->W.cell? ⟨w.heap.size,1,none⟩=some (.int .i64 x.up.op)/\W.cell? ⟨w.heap.size,2,none⟩=some (.int .i64 x.up.a)/\W.cell? ⟨w.heap.size,3,none⟩=some (.int .i64 x.up.b)/\W.cell? ⟨w.heap.size,4,none⟩=some (.int .i64 x.up.n)/\W.cell? ⟨w.heap.size,5,none⟩=some (.slice P.upvp P.upvm P.upvc)/\W.cell? ⟨w.heap.size,6,none⟩=some (.slice P.upwp P.upwm P.upwc)/\W.cell? ⟨w.heap.size,7,none⟩=some (.int .i64 x.dn.op)/\W.cell? ⟨w.heap.size,8,none⟩=some (.int .i64 x.dn.a)/\W.cell? ⟨w.heap.size,9,none⟩=some (.int .i64 x.dn.b)/\W.cell? ⟨w.heap.size,10,none⟩=some (.int .i64 x.dn.n)/\W.cell? ⟨w.heap.size,11,none⟩=some (.slice P.dnvp P.dnvm P.dnvc)/\W.cell? ⟨w.heap.size,12,none⟩=some (.slice P.dnwp P.dnwm P.dnwc)):=hid fun W hb=>by
      have q:=FX.out W hb;exact⟨q.get (flt1 x P),q.get (flt2 x P),q.get (flt3 x P),q.get (flt4 x P),q.get (flt5 x P),q.get (flt6 x P),q.get (flt7 x P),q.get (flt8 x P),q.get (flt9 x P),q.get (flt10 x P),q.get (flt11 x P),q.get (flt12 x P)⟩
     clear hv1 hv2;go_enter Tryz.func160,Tryz.ntmps160;go_wp2_with fail;refine(CZ.out _ bl).mono ?_;rintro e w2 ⟨rfl,hb2⟩;have q:=FX.out w2 bl;have p0:=q.get (flt0 x P);clear q;go_wp2_with fail;refine(HB.out _ bl).mono ?_;rintro e w3 ⟨rfl,rfl⟩;go_wp2_with fail;go_region_held3 (fun W=>W.cell? ⟨w.heap.size,1,none⟩=some (.int .i64 x.up.op)/\W.cell? ⟨w.heap.size,2,none⟩=some (.int .i64 x.up.a)/\W.cell? ⟨w.heap.size,3,none⟩=some (.int .i64 x.up.b)/\W.cell? ⟨w.heap.size,4,none⟩=some (.int .i64 x.up.n)/\W.cell? ⟨w.heap.size,5,none⟩=some (.slice P.upvp P.upvm P.upvc)/\W.cell? ⟨w.heap.size,6,none⟩=some (.slice P.upwp P.upwm P.upwc)/\W.cell? ⟨w.heap.size,7,none⟩=some (.int .i64 x.dn.op)/\W.cell? ⟨w.heap.size,8,none⟩=some (.int .i64 x.dn.a)/\W.cell? ⟨w.heap.size,9,none⟩=some (.int .i64 x.dn.b)/\W.cell? ⟨w.heap.size,10,none⟩=some (.int .i64 x.dn.n)/\W.cell? ⟨w.heap.size,11,none⟩=some (.slice P.dnvp P.dnvm P.dnvc)/\W.cell? ⟨w.heap.size,12,none⟩=some (.slice P.dnwp P.dnwm P.dnwc)) (first|(refine FY.out _ ?_;exact bl;done)|(go_keep;done)) (first
      | (have t:=hb5;go_at_call 34;refine(or_any [v1,v2] _ 2 2 _ rfl (by omega) (hid (cells2 _ _ _ _))).mono ?_;rintro e w9 ⟨rfl,rfl⟩)
      | (have t:=hb4;go_at_call 91;refine(CN.out _ bl).mono ?_;rintro e w5 ⟨rfl,hb5⟩)
      | (go_at_call 91;refine(CU.out _ bl).mono ?_;rintro e w4 ⟨rfl,hb4⟩))
     all_goals
      have HB5:=hid hb5;go_wp2_with fail;go_ret;exact⟨by rw[← orL2];rfl,bl⟩
end Go.Proofs.YtbgodajefaahdaaGreatDoor.Md
