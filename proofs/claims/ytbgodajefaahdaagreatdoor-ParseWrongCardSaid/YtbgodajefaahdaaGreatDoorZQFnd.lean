/-
  Parts of this proof: The contracts of the closures that look for a na.
-/
import Derived.Test.YtbgodajefaahdaaGreatDoorZPBase
set_option linter.unusedVariables false
open Go.Lib (hid)
namespace Go.Proofs.YtbgodajefaahdaaGreatDoor.Md
open Go.RowKit
open Go.Proofs.YtbgodajefaahdaaGreatDoor.Na (bs_inj fst)
open Go.Proofs.YtbgodajefaahdaaGreatDoor.Ex (Lo Gives block_lt)
attribute [local go_sem] cVal0 cRes0 cSto0 cBlt0 cRou0 cSte0 cMdl0 cMdl1 cMdl2 cMdl3 cSte10
set_option maxHeartbeats 2000000
theorem cl_Val (x:Val) (s:ByteArray) (B:Nat) (w:World) (hB:w.cell? ⟨B,0,none⟩=some (.string s)):Calls Tryz.prog 216 #[.agg (cVal x),.pointer (some ⟨B,0,none⟩)] w (Gives (.bool (txB x.nm s)) w):=by
 have hl:=block_lt hB;have hne:B≠w.heap.size:=by have:B<w.heap.size:=hl;omega
 have u1:(x.nm.toList==s.toList)=txB x.nm s:=tx_is _ _;obtain⟨r,hr⟩:∃r,txB x.nm s=r:=⟨_,rfl⟩
 rw[hr] at u1 ⊢;clear hr;cases r
 · go_enter Tryz.func216,Tryz.ntmps216;go_wp2_with fail;go_ret;exact⟨rfl,bl⟩
 · go_enter Tryz.func216,Tryz.ntmps216;go_wp2_with fail;go_ret;exact⟨rfl,bl⟩
theorem cl_Res (x:Res) (P:PRes) (s:ByteArray) (B:Nat) (w:World) (hB:w.cell? ⟨B,0,none⟩=some (.string s)):Calls Tryz.prog 218 #[.agg (cRes x P),.pointer (some ⟨B,0,none⟩)] w (Gives (.bool (txB x.nm s)) w):=by
 have hl:=block_lt hB;have hne:B≠w.heap.size:=by have:B<w.heap.size:=hl;omega
 have u1:(x.nm.toList==s.toList)=txB x.nm s:=tx_is _ _;obtain⟨r,hr⟩:∃r,txB x.nm s=r:=⟨_,rfl⟩
 rw[hr] at u1 ⊢;clear hr;cases r
 · go_enter Tryz.func218,Tryz.ntmps218;go_wp2_with fail;go_ret;exact⟨rfl,bl⟩
 · go_enter Tryz.func218,Tryz.ntmps218;go_wp2_with fail;go_ret;exact⟨rfl,bl⟩
theorem cl_Sto (x:Sto) (s:ByteArray) (B:Nat) (w:World) (hB:w.cell? ⟨B,0,none⟩=some (.string s)):Calls Tryz.prog 220 #[.agg (cSto x),.pointer (some ⟨B,0,none⟩)] w (Gives (.bool (txB x.nm s)) w):=by
 have hl:=block_lt hB;have hne:B≠w.heap.size:=by have:B<w.heap.size:=hl;omega
 have u1:(x.nm.toList==s.toList)=txB x.nm s:=tx_is _ _;obtain⟨r,hr⟩:∃r,txB x.nm s=r:=⟨_,rfl⟩
 rw[hr] at u1 ⊢;clear hr;cases r
 · go_enter Tryz.func220,Tryz.ntmps220;go_wp2_with fail;go_ret;exact⟨rfl,bl⟩
 · go_enter Tryz.func220,Tryz.ntmps220;go_wp2_with fail;go_ret;exact⟨rfl,bl⟩
theorem cl_Blt (x:Blt) (s:ByteArray) (B:Nat) (w:World) (hB:w.cell? ⟨B,0,none⟩=some (.string s)):Calls Tryz.prog 222 #[.agg (cBlt x),.pointer (some ⟨B,0,none⟩)] w (Gives (.bool (txB x.nm s)) w):=by
 have hl:=block_lt hB;have hne:B≠w.heap.size:=by have:B<w.heap.size:=hl;omega
 have u1:(x.nm.toList==s.toList)=txB x.nm s:=tx_is _ _;obtain⟨r,hr⟩:∃r,txB x.nm s=r:=⟨_,rfl⟩
 rw[hr] at u1 ⊢;clear hr;cases r
 · go_enter Tryz.func222,Tryz.ntmps222;go_wp2_with fail;go_ret;exact⟨rfl,bl⟩
 · go_enter Tryz.func222,Tryz.ntmps222;go_wp2_with fail;go_ret;exact⟨rfl,bl⟩
theorem cl_Rou (x:Rou) (P:PRou) (s:ByteArray) (B:Nat) (w:World) (hB:w.cell? ⟨B,0,none⟩=some (.string s)):Calls Tryz.prog 192 #[.agg (cRou x P),.pointer (some ⟨B,0,none⟩)] w (Gives (.bool (txB x.nm s)) w):=by
 have hl:=block_lt hB;have hne:B≠w.heap.size:=by have:B<w.heap.size:=hl;omega
 have u1:(x.nm.toList==s.toList)=txB x.nm s:=tx_is _ _;obtain⟨r,hr⟩:∃r,txB x.nm s=r:=⟨_,rfl⟩
 rw[hr] at u1 ⊢;clear hr;cases r
 · go_enter Tryz.func192,Tryz.ntmps192;go_wp2_with fail;go_ret;exact⟨rfl,bl⟩
 · go_enter Tryz.func192,Tryz.ntmps192;go_wp2_with fail;go_ret;exact⟨rfl,bl⟩
theorem cl_Ste (x:Ste) (P:PSte) (s:ByteArray) (B:Nat) (w:World) (hB:w.cell? ⟨B,0,none⟩=some (.string s)):Calls Tryz.prog 127 #[.agg (cSte x P),.pointer (some ⟨B,0,none⟩)] w (Gives (.bool (txB x.nm s)) w):=by
 have hl:=block_lt hB;have hne:B≠w.heap.size:=by have:B<w.heap.size:=hl;omega
 have u1:(x.nm.toList==s.toList)=txB x.nm s:=tx_is _ _;obtain⟨r,hr⟩:∃r,txB x.nm s=r:=⟨_,rfl⟩
 rw[hr] at u1 ⊢;clear hr;cases r
 · go_enter Tryz.func127,Tryz.ntmps127;go_wp2_with fail;go_ret;exact⟨rfl,bl⟩
 · go_enter Tryz.func127,Tryz.ntmps127;go_wp2_with fail;go_ret;exact⟨rfl,bl⟩
theorem arg1' (c a:Value):((#[]:Array Value).push c++#[a])=#[c,a]:=rfl
theorem find_Val {l:List Val} {p:Option Addr} {m c:Nat} {w:World} (s:ByteArray) (B:Nat) (hl:Rw 3 RVal (Lo w.heap.size) w l p m) (hB:w.cell? ⟨B,0,none⟩=some (.string s)):Calls Tryz.prog 215 #[.slice p m c,.func (.func 216) #[] #[.pointer (some ⟨B,0,none⟩)]] w (Gives (.int .i64 (fst (l.map (·.nm)) s)) w):=by
 rw[← idxB_fst];refine index_Val (hid hl) #[] #[.pointer (some ⟨B,0,none⟩)] (fun x=>txB x.nm s) (hid fun x c W hR hW=>?_);rw[arg1'];rw[show c=cVal x from hR];exact cl_Val x s B W ((hW.cell (p:=⟨B,0,none⟩) (block_lt hB)).trans hB)
theorem find_Res {l:List Res} {p:Option Addr} {m c:Nat} {w:World} (s:ByteArray) (B:Nat) (hl:Rw 17 RRes (Lo w.heap.size) w l p m) (hB:w.cell? ⟨B,0,none⟩=some (.string s)):Calls Tryz.prog 217 #[.slice p m c,.func (.func 218) #[] #[.pointer (some ⟨B,0,none⟩)]] w (Gives (.int .i64 (fst (l.map (·.nm)) s)) w):=by
 rw[← idxB_fst];refine index_Res (hid hl) #[] #[.pointer (some ⟨B,0,none⟩)] (fun x=>txB x.nm s) (hid fun x c W hR hW=>?_);rw[arg1'];obtain⟨P,rfl,-⟩:=hR;exact cl_Res x P s B W ((hW.cell (p:=⟨B,0,none⟩) (block_lt hB)).trans hB)
theorem find_Sto {l:List Sto} {p:Option Addr} {m c:Nat} {w:World} (s:ByteArray) (B:Nat) (hl:Rw 3 RSto (Lo w.heap.size) w l p m) (hB:w.cell? ⟨B,0,none⟩=some (.string s)):Calls Tryz.prog 219 #[.slice p m c,.func (.func 220) #[] #[.pointer (some ⟨B,0,none⟩)]] w (Gives (.int .i64 (fst (l.map (·.nm)) s)) w):=by
 rw[← idxB_fst];refine index_Sto (hid hl) #[] #[.pointer (some ⟨B,0,none⟩)] (fun x=>txB x.nm s) (hid fun x c W hR hW=>?_);rw[arg1'];rw[show c=cSto x from hR];exact cl_Sto x s B W ((hW.cell (p:=⟨B,0,none⟩) (block_lt hB)).trans hB)
theorem find_Blt {l:List Blt} {p:Option Addr} {m c:Nat} {w:World} (s:ByteArray) (B:Nat) (hl:Rw 3 RBlt (Lo w.heap.size) w l p m) (hB:w.cell? ⟨B,0,none⟩=some (.string s)):Calls Tryz.prog 221 #[.slice p m c,.func (.func 222) #[] #[.pointer (some ⟨B,0,none⟩)]] w (Gives (.int .i64 (fst (l.map (·.nm)) s)) w):=by
 rw[← idxB_fst];refine index_Blt (hid hl) #[] #[.pointer (some ⟨B,0,none⟩)] (fun x=>txB x.nm s) (hid fun x c W hR hW=>?_);rw[arg1'];rw[show c=cBlt x from hR];exact cl_Blt x s B W ((hW.cell (p:=⟨B,0,none⟩) (block_lt hB)).trans hB)
theorem find_Rou {l:List Rou} {p:Option Addr} {m c:Nat} {w:World} (s:ByteArray) (B:Nat) (hl:Rw 4 RRou (Lo w.heap.size) w l p m) (hB:w.cell? ⟨B,0,none⟩=some (.string s)):Calls Tryz.prog 191 #[.slice p m c,.func (.func 192) #[] #[.pointer (some ⟨B,0,none⟩)]] w (Gives (.int .i64 (fst (l.map (·.nm)) s)) w):=by
 rw[← idxB_fst];refine index_Rou (hid hl) #[] #[.pointer (some ⟨B,0,none⟩)] (fun x=>txB x.nm s) (hid fun x c W hR hW=>?_);rw[arg1'];obtain⟨P,rfl,-⟩:=hR;exact cl_Rou x P s B W ((hW.cell (p:=⟨B,0,none⟩) (block_lt hB)).trans hB)
theorem find_Ste {l:List Ste} {p:Option Addr} {m c:Nat} {w:World} (s:ByteArray) (B:Nat) (hl:Rw 13 RSte (Lo w.heap.size) w l p m) (hB:w.cell? ⟨B,0,none⟩=some (.string s)):Calls Tryz.prog 126 #[.slice p m c,.func (.func 127) #[] #[.pointer (some ⟨B,0,none⟩)]] w (Gives (.int .i64 (fst (l.map (·.nm)) s)) w):=by
 rw[← idxB_fst];refine index_Ste (hid hl) #[] #[.pointer (some ⟨B,0,none⟩)] (fun x=>txB x.nm s) (hid fun x c W hR hW=>?_);rw[arg1'];obtain⟨P,rfl,-⟩:=hR;exact cl_Ste x P s B W ((hW.cell (p:=⟨B,0,none⟩) (block_lt hB)).trans hB)
set_option maxRecDepth 100000 in
theorem routine_any (x:Ste) (P:PSte) (s:ByteArray) (w:World) (hl:Rw 4 RRou (Lo w.heap.size) w x.ro P.rop P.rom):Calls Tryz.prog 164 #[.agg (cSte x P),.string s] w (Gives (.int .i64 (rouI x.ro s)) w):=by
 have HL:=hid hl;clear hl;go_enter Tryz.func164,Tryz.ntmps164;go_wp2_with fail;refine(find_Rou (l:=x.ro) s (w.heap.size+1) (HL.out.on RRou.map bl) (by go_simp)).mono ?_;rintro e w2 ⟨rfl,hb2⟩;go_wp2_with fail;go_ret;exact⟨rfl,bl⟩
set_option maxRecDepth 100000 in
theorem site_any (x:Mdl) (P:PMdl) (s:ByteArray) (w:World) (hl:Rw 13 RSte (Lo w.heap.size) w x.si P.sip P.sim):Calls Tryz.prog 77 #[.agg (cMdl x P),.string s] w (Gives (.int .i64 (siteI x.si s)) w):=by
 have HL:=hid hl;clear hl;go_enter Tryz.func77,Tryz.ntmps77;go_wp2_with fail;refine(find_Ste (l:=x.si) s (w.heap.size+1) (HL.out.on RSte.map bl) (by go_simp)).mono ?_;rintro e w2 ⟨rfl,hb2⟩;go_wp2_with fail;go_ret;exact⟨rfl,bl⟩
theorem tx_eq {a b:ByteArray}:(a.toList==b.toList)=decide (a=b):=by
 rw[tx_is];unfold txB;by_cases h:a=b
 · rw[decide_eq_true h,decide_eq_true (by rw[h])]
 · rw[decide_eq_false h,decide_eq_false (fun e=>h (bs_inj e))]
end Go.Proofs.YtbgodajefaahdaaGreatDoor.Md
