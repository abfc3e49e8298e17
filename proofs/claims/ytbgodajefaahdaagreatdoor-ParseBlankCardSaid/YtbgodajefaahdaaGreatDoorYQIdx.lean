/-
  Parts of this proof: The contracts of slices.IndexFunc at its types.
-/
import Derived.Test.YtbgodajefaahdaaGreatDoorYPBase
open Go.Proofs.Tryz renaming prog->ae
open List renaming getElem?_eq_getElem->af
open Nat renaming lt_or_ge->ag,zero_le->ah
open Go.Lib renaming hid->ai
open Go.RowKit.Below renaming refl->aj
set_option linter.unusedVariables false
open Go.Lib (hid)
namespace Go.Proofs.YtbgodajefaahdaaGreatDoor
namespace Md
open Go.RowKit
open Na (bs fst)
open Ex (Lo Gives take_one oG)
set_option maxHeartbeats 2000000
def ib {α:Type} (f:α->Bool):List α->Int
 | []=>-1
 | x::t=>if f x=true then 0 else if ib f t = -1 then -1 else ib f t+1
theorem Uo {α:Type} {f:α->Bool}:∀l:List α,-1<=ib f l
 | []=>by unfold ib;omega
 | x::t=>by
  have:=Uo (f:=f) t;unfold ib
  split
  · omega
  · split <;> omega
theorem Un {α:Type} {f:α->Bool}:∀{a b:List α},ib f a = -1->ib f (a++b)=if ib f b = -1 then -1 else a.length+ib f b
 | [],b,_=>by
  rw[List.nil_append]
  split
  · assumption
  · simp
 | x::t,b,h=>by
  rw[List.cons_append,ib];rw[ib] at h;by_cases hx:f x=true
  · rw[if_pos hx] at h;omega
  · rw[if_neg hx] at h ⊢;have h0:=Uo (f:=f) t;have h1:=Uo (f:=f) b;by_cases ht:ib f t = -1
    · rw[Un ht];by_cases hb:ib f b = -1
      · rw[if_pos hb,if_pos hb,if_pos rfl]
      · rw[if_neg hb,if_neg hb,if_neg (by omega),List.length_cons];omega
    · rw[if_neg ht] at h;omega
theorem am_ {α:Type} {f:α->Bool} {l:List α} {k:Nat} {x:α} (hx:l[k]?=some x) (h:ib f (l.take k) = -1) (g:f x=false):ib f (l.take (k+1)) = -1:=by
 rw[take_one hx,Un h];have:ib f [x] = -1:=by unfold ib;rw[g];rfl
 rw[if_pos this]
theorem am9 {α:Type} {f:α->Bool} {l:List α} {k:Nat} {x:α} (hx:l[k]?=some x) (h:ib f (l.take k) = -1) (g:f x=true):ib f l=(k:Int):=by
 obtain⟨hk,e⟩:=List.getElem?_eq_some_iff.1 hx;have h1:=List.take_append_drop k l;rw[List.drop_eq_getElem_cons hk,e] at h1;have h2:=Un (b:=x::l.drop (k+1)) h;rw[h1] at h2;have h3:ib f (x::l.drop (k+1))=0:=by unfold ib;rw[if_pos g]
 rw[h2,h3,if_neg (by omega),List.length_take];omega
theorem EA {α:Type} {nm:α->ByteArray} {s:ByteArray}:∀{l:List α},ib (fun x=>dF (nm x) s) l=fst (l.map nm) s
 | []=>rfl
 | x::t=>by
  rw[List.map_cons,abF,ib,EA];have:(dF (nm x) s=true)=(bs (nm x)=bs s):=by unfold dF;rw[decide_eq_true_eq]
  simp only[this]
theorem mo (a b:ByteArray):(a.toList==b.toList)=dF a b:=by
 unfold dF;by_cases h:bs a=bs b
 · rw[decide_eq_true h];exact Na.vo h
 · rw[decide_eq_false h];exact Na.xZ h
theorem Hm {p:Prop} (h:p:=by
 have ld1:=cK.dW hcsz;have lI:=cK.kg bt;have nD:=cK.kN bt;obtain⟨x,hx⟩:∃x,l[k]=x:=⟨_,rfl⟩
 rw[hx] at HX HR;clear hcell hcs hat cK bt hR hx hkl;go_wp2_with fail;refine(hc.out x c _ HR.out HW.out).mono ?_;rintro e w2 ⟨rfl,hb2⟩;have HW2:Hid (Below w.heap.size w w2):=ai (by have bU:=HW.out;exact bl);clear ld1 lI nD hb2
 cases hr:f x
 · have H:=ai (am_ HX.out HA.out hr);clear hr;go_wp2_with fail;go_roundw
   case rel=>exact⟨k+1,by omega,by go_num,HW2,H⟩
   case measure=>simp[intOf];omega
 · have H:=ai (am9 HX.out HA.out hr);clear hr;go_wp2_with fail;go_ret;exact⟨oG H.out.symm,HW2.out⟩
 ):p:=h
theorem Ho {p:Prop} (h:p:=by
 obtain rfl:m=k:=by omega
 have HT:=ai (show ib f l = -1 by have h1:=HA.out;rwa [List.take_of_length_le (by rw[HL.out];exact Nat.le_refl _)] at h1);go_wp2_with fail;go_ret;exact⟨oG HT.out.symm,HW.out⟩
 ):p:=h
set_option maxRecDepth 100000 in
theorem anf {l:List b_} {p:Option Addr} {m c:Nat} {w:World} (hl:Hid (Rw 13 gH (Lo w.heap.size) w l p m)) (bnd cap:Array Value) (f:b_->Bool)
 (hc:Hid (∀x c W,gH (Lo W.heap.size) W x c->Below w.heap.size w W->Calls ae 127 (bnd.push (.agg c)++cap) W (Gives (.bool (f x)) W))) :
 Calls ae 126 #[.slice p m c,.func (.func 127) bnd cap] w (Gives (.int .i64 (ib f l)) w):=by
 obtain⟨hlm,hm⟩:=hl.out.len;have HL:=ai hlm;have t3:(m:Int)<=9223372036854775807:=by omega
 clear hlm hm;obtain⟨kk,hkk⟩:∃n:Nat,13=n:=⟨_,rfl⟩
 have hsz:∀w,(sizeOf 53).run ae w=.ok kk w:=fun w=>by rw[Tryz.sizeOf53,hkk]
 have HKK:=ai hkk;clear hkk;go_enter Tryz.func126,Tryz.ntmps126;go_wp2_with fail;go_loopw [8] (fun i wr=>∃k:Nat,k<=m/\i=.int .i64 (k:Nat)/\Hid (Below w.heap.size w wr)/\Hid (ib f (l.take k) = -1)) (fun i _=>m-(intOf i).toNat)
 case atStart=>exact⟨0,ah _,rfl,ai (aj _ _),ai rfl⟩
 case round=>
  obtain⟨k,hk,rfl,HW,HA⟩:=hrel;have k0:(0:Int)<=(k:Int):=by omega
  rcases ag k m with h|h
  · have k1:(k:Int)<(m:Int):=by omega
    have hkl:k<l.length:=by rw[HL.out];exact h
    have HX:=ai (af hkl);obtain⟨b,o,rfl,gD,hG,hcell⟩:=(hl.out.below gH.map HW.out).rows (by omega);obtain⟨c,hcs,hat,hR⟩:=hcell.out k hkl;have HC:=ai hcs;have HR:=ai (gH.map.all hR);have hcsz:c.size=kk:=by rw[HC.out,HKK.out]
    have cK:=hat.at HKK.out;have bt:Big 53 c.size:=by rw[HC.out];exact M7
    exact Hm
  · exact Ho
set_option maxRecDepth 100000 in
theorem ane {l:List eQ} {p:Option Addr} {m c:Nat} {w:World} (hl:Hid (Rw 4 gT (Lo w.heap.size) w l p m)) (bnd cap:Array Value) (f:eQ->Bool)
 (hc:Hid (∀x c W,gT (Lo W.heap.size) W x c->Below w.heap.size w W->Calls ae 192 (bnd.push (.agg c)++cap) W (Gives (.bool (f x)) W))) :
 Calls ae 191 #[.slice p m c,.func (.func 192) bnd cap] w (Gives (.int .i64 (ib f l)) w):=by
 obtain⟨hlm,hm⟩:=hl.out.len;have HL:=ai hlm;have t3:(m:Int)<=9223372036854775807:=by omega
 clear hlm hm;obtain⟨kk,hkk⟩:∃n:Nat,4=n:=⟨_,rfl⟩
 have hsz:∀w,(sizeOf 119).run ae w=.ok kk w:=fun w=>by rw[Tryz.sizeOf119,hkk]
 have HKK:=ai hkk;clear hkk;go_enter Tryz.func191,Tryz.ntmps191;go_wp2_with fail;go_loopw [8] (fun i wr=>∃k:Nat,k<=m/\i=.int .i64 (k:Nat)/\Hid (Below w.heap.size w wr)/\Hid (ib f (l.take k) = -1)) (fun i _=>m-(intOf i).toNat)
 case atStart=>exact⟨0,ah _,rfl,ai (aj _ _),ai rfl⟩
 case round=>
  obtain⟨k,hk,rfl,HW,HA⟩:=hrel;have k0:(0:Int)<=(k:Int):=by omega
  rcases ag k m with h|h
  · have k1:(k:Int)<(m:Int):=by omega
    have hkl:k<l.length:=by rw[HL.out];exact h
    have HX:=ai (af hkl);obtain⟨b,o,rfl,gD,hG,hcell⟩:=(hl.out.below gT.map HW.out).rows (by omega);obtain⟨c,hcs,hat,hR⟩:=hcell.out k hkl;have HC:=ai hcs;have HR:=ai (gT.map.all hR);have hcsz:c.size=kk:=by rw[HC.out,HKK.out]
    have cK:=hat.at HKK.out;have bt:Big 119 c.size:=by rw[HC.out];exact F6
    exact Hm
  · exact Ho
set_option maxRecDepth 100000 in
theorem anh {l:List Val} {p:Option Addr} {m c:Nat} {w:World} (hl:Hid (Rw 3 fV (Lo w.heap.size) w l p m)) (bnd cap:Array Value) (f:Val->Bool)
 (hc:Hid (∀x c W,fV (Lo W.heap.size) W x c->Below w.heap.size w W->Calls ae 216 (bnd.push (.agg c)++cap) W (Gives (.bool (f x)) W))) :
 Calls ae 215 #[.slice p m c,.func (.func 216) bnd cap] w (Gives (.int .i64 (ib f l)) w):=by
 obtain⟨hlm,hm⟩:=hl.out.len;have HL:=ai hlm;have t3:(m:Int)<=9223372036854775807:=by omega
 clear hlm hm;obtain⟨kk,hkk⟩:∃n:Nat,3=n:=⟨_,rfl⟩
 have hsz:∀w,(sizeOf 93).run ae w=.ok kk w:=fun w=>by rw[Tryz.sizeOf93,hkk]
 have HKK:=ai hkk;clear hkk;go_enter Tryz.func215,Tryz.ntmps215;go_wp2_with fail;go_loopw [8] (fun i wr=>∃k:Nat,k<=m/\i=.int .i64 (k:Nat)/\Hid (Below w.heap.size w wr)/\Hid (ib f (l.take k) = -1)) (fun i _=>m-(intOf i).toNat)
 case atStart=>exact⟨0,ah _,rfl,ai (aj _ _),ai rfl⟩
 case round=>
  obtain⟨k,hk,rfl,HW,HA⟩:=hrel;have k0:(0:Int)<=(k:Int):=by omega
  rcases ag k m with h|h
  · have k1:(k:Int)<(m:Int):=by omega
    have hkl:k<l.length:=by rw[HL.out];exact h
    have HX:=ai (af hkl);obtain⟨b,o,rfl,gD,hG,hcell⟩:=(hl.out.below fV.map HW.out).rows (by omega);obtain⟨c,hcs,hat,hR⟩:=hcell.out k hkl;have HC:=ai hcs;have HR:=ai (fV.map.all hR);have hcsz:c.size=kk:=by rw[HC.out,HKK.out]
    have cK:=hat.at HKK.out;have bt:Big 93 c.size:=by rw[HC.out];exact M9
    exact Hm
  · exact Ho
set_option maxRecDepth 100000 in
theorem anc {l:List dm} {p:Option Addr} {m c:Nat} {w:World} (hl:Hid (Rw 17 iV (Lo w.heap.size) w l p m)) (bnd cap:Array Value) (f:dm->Bool)
 (hc:Hid (∀x c W,iV (Lo W.heap.size) W x c->Below w.heap.size w W->Calls ae 218 (bnd.push (.agg c)++cap) W (Gives (.bool (f x)) W))) :
 Calls ae 217 #[.slice p m c,.func (.func 218) bnd cap] w (Gives (.int .i64 (ib f l)) w):=by
 obtain⟨hlm,hm⟩:=hl.out.len;have HL:=ai hlm;have t3:(m:Int)<=9223372036854775807:=by omega
 clear hlm hm;obtain⟨kk,hkk⟩:∃n:Nat,17=n:=⟨_,rfl⟩
 have hsz:∀w,(sizeOf 111).run ae w=.ok kk w:=fun w=>by rw[Tryz.sizeOf111,hkk]
 have HKK:=ai hkk;clear hkk;go_enter Tryz.func217,Tryz.ntmps217;go_wp2_with fail;go_loopw [8] (fun i wr=>∃k:Nat,k<=m/\i=.int .i64 (k:Nat)/\Hid (Below w.heap.size w wr)/\Hid (ib f (l.take k) = -1)) (fun i _=>m-(intOf i).toNat)
 case atStart=>exact⟨0,ah _,rfl,ai (aj _ _),ai rfl⟩
 case round=>
  obtain⟨k,hk,rfl,HW,HA⟩:=hrel;have k0:(0:Int)<=(k:Int):=by omega
  rcases ag k m with h|h
  · have k1:(k:Int)<(m:Int):=by omega
    have hkl:k<l.length:=by rw[HL.out];exact h
    have HX:=ai (af hkl);obtain⟨b,o,rfl,gD,hG,hcell⟩:=(hl.out.below iV.map HW.out).rows (by omega);obtain⟨c,hcs,hat,hR⟩:=hcell.out k hkl;have HC:=ai hcs;have HR:=ai (iV.map.all hR);have hcsz:c.size=kk:=by rw[HC.out,HKK.out]
    have cK:=hat.at HKK.out;have bt:Big 111 c.size:=by rw[HC.out];exact Cc
    exact Hm
  · exact Ho
set_option maxRecDepth 100000 in
theorem ang {l:List iI} {p:Option Addr} {m c:Nat} {w:World} (hl:Hid (Rw 3 jZ (Lo w.heap.size) w l p m)) (bnd cap:Array Value) (f:iI->Bool)
 (hc:Hid (∀x c W,jZ (Lo W.heap.size) W x c->Below w.heap.size w W->Calls ae 220 (bnd.push (.agg c)++cap) W (Gives (.bool (f x)) W))) :
 Calls ae 219 #[.slice p m c,.func (.func 220) bnd cap] w (Gives (.int .i64 (ib f l)) w):=by
 obtain⟨hlm,hm⟩:=hl.out.len;have HL:=ai hlm;have t3:(m:Int)<=9223372036854775807:=by omega
 clear hlm hm;obtain⟨kk,hkk⟩:∃n:Nat,3=n:=⟨_,rfl⟩
 have hsz:∀w,(sizeOf 114).run ae w=.ok kk w:=fun w=>by rw[Tryz.sizeOf114,hkk]
 have HKK:=ai hkk;clear hkk;go_enter Tryz.func219,Tryz.ntmps219;go_wp2_with fail;go_loopw [8] (fun i wr=>∃k:Nat,k<=m/\i=.int .i64 (k:Nat)/\Hid (Below w.heap.size w wr)/\Hid (ib f (l.take k) = -1)) (fun i _=>m-(intOf i).toNat)
 case atStart=>exact⟨0,ah _,rfl,ai (aj _ _),ai rfl⟩
 case round=>
  obtain⟨k,hk,rfl,HW,HA⟩:=hrel;have k0:(0:Int)<=(k:Int):=by omega
  rcases ag k m with h|h
  · have k1:(k:Int)<(m:Int):=by omega
    have hkl:k<l.length:=by rw[HL.out];exact h
    have HX:=ai (af hkl);obtain⟨b,o,rfl,gD,hG,hcell⟩:=(hl.out.below jZ.map HW.out).rows (by omega);obtain⟨c,hcs,hat,hR⟩:=hcell.out k hkl;have HC:=ai hcs;have HR:=ai (jZ.map.all hR);have hcsz:c.size=kk:=by rw[HC.out,HKK.out]
    have cK:=hat.at HKK.out;have bt:Big 114 c.size:=by rw[HC.out];exact M8
    exact Hm
  · exact Ho
set_option maxRecDepth 100000 in
theorem anb {l:List iF} {p:Option Addr} {m c:Nat} {w:World} (hl:Hid (Rw 3 jY (Lo w.heap.size) w l p m)) (bnd cap:Array Value) (f:iF->Bool)
 (hc:Hid (∀x c W,jY (Lo W.heap.size) W x c->Below w.heap.size w W->Calls ae 222 (bnd.push (.agg c)++cap) W (Gives (.bool (f x)) W))) :
 Calls ae 221 #[.slice p m c,.func (.func 222) bnd cap] w (Gives (.int .i64 (ib f l)) w):=by
 obtain⟨hlm,hm⟩:=hl.out.len;have HL:=ai hlm;have t3:(m:Int)<=9223372036854775807:=by omega
 clear hlm hm;obtain⟨kk,hkk⟩:∃n:Nat,3=n:=⟨_,rfl⟩
 have hsz:∀w,(sizeOf 116).run ae w=.ok kk w:=fun w=>by rw[Tryz.sizeOf116,hkk]
 have HKK:=ai hkk;clear hkk;go_enter Tryz.func221,Tryz.ntmps221;go_wp2_with fail;go_loopw [8] (fun i wr=>∃k:Nat,k<=m/\i=.int .i64 (k:Nat)/\Hid (Below w.heap.size w wr)/\Hid (ib f (l.take k) = -1)) (fun i _=>m-(intOf i).toNat)
 case atStart=>exact⟨0,ah _,rfl,ai (aj _ _),ai rfl⟩
 case round=>
  obtain⟨k,hk,rfl,HW,HA⟩:=hrel;have k0:(0:Int)<=(k:Int):=by omega
  rcases ag k m with h|h
  · have k1:(k:Int)<(m:Int):=by omega
    have hkl:k<l.length:=by rw[HL.out];exact h
    have HX:=ai (af hkl);obtain⟨b,o,rfl,gD,hG,hcell⟩:=(hl.out.below jY.map HW.out).rows (by omega);obtain⟨c,hcs,hat,hR⟩:=hcell.out k hkl;have HC:=ai hcs;have HR:=ai (jY.map.all hR);have hcsz:c.size=kk:=by rw[HC.out,HKK.out]
    have cK:=hat.at HKK.out;have bt:Big 116 c.size:=by rw[HC.out];exact M5
    exact Hm
  · exact Ho
end Md
end Go.Proofs.YtbgodajefaahdaaGreatDoor
