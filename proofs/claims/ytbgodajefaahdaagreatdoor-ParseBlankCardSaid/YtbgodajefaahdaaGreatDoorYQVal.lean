/-
  Parts of this proof: The contracts of checkValue and checkField, and . The contracts of checkStore, checkBelt and of th. Lists of declarations in a scope.
-/
import Derived.Test.YtbgodajefaahdaaGreatDoorYQSml
import Derived.Test.YtbgodajefaahdaaGreatDoorYQEach
import Derived.Test.YtbgodajefaahdaaGreatDoorYEWalk
open Go renaming World->ae
open Go.Proofs.Tryz renaming prog->af
set_option linter.unusedVariables false
open Go.Lib (hid)
namespace Go.Proofs.YtbgodajefaahdaaGreatDoor
namespace Md
open Go.RowKit Go.Maps
open Sm (dR uk lJ)
attribute [local go_sem] ZX SB SC aji ZO
set_option maxHeartbeats 2000000
theorem iW.lt {b:Nat} {acc:List ByteArray} {w:ae} (h:iW b acc w):b<w.heap.size:=by
 obtain⟨es,clock,hb,-⟩:=h;exact(Array.getElem?_eq_some_iff.1 hb).1
def Step (b:Nat) (r:Int×List ByteArray) (w:ae) (e:Ending) (w':ae):Prop:=e=.returned (.int .i64 r.1)/\iW b r.2 w'/\But b w w'
theorem Ww (acc:List ByteArray) (p:ByteArray×Int):ek acc p=(dR (jA acc p.1) p.2,jy acc p.1):=rfl
theorem QV {p:Prop} (h:p:=by
 go_wp2_with fail;go_ret;exact⟨rfl,HS2.out,(But.of bl).trans HB2.out⟩
 ):p:=h
theorem agr {p:Prop} (h:p:=by
 go_enter Tryz.func37,Tryz.ntmps37;go_wp2_with fail;refine(CD.out _ (HS.out.on bl)).mono ?_;rintro e w2 ⟨rfl,hs2,hb2⟩;have HS2:=hid hs2;have HB2:=hid hb2;have q:=((FX.out _ (Below.refl _ _)).but hb2 (by have:=oJ.out;omega))
 have c1:=q.get (SB x);have c2:=q.get (SC x);clear hs2 hb2 q;go_wp2_with fail;refine(CT.out _).mono ?_;rintro e w3 ⟨rfl,rfl⟩;go_wp2_with fail;refine(CF.out _).mono ?_;rintro e w3 ⟨rfl,rfl⟩;exact QV
 ):p:=h
theorem agt {p:Prop} (h:p:=by
 go_wp2_with fail;refine(CD.out _ (HS.out.on bl)).mono ?_;rintro e w2 ⟨rfl,hs2,hb2⟩;have HS2:=hid hs2;have HB2:=hid hb2;clear hs2 hb2;exact QV
 ):p:=h
set_option maxRecDepth 100000 in
theorem aj6 (x:Val) (b:Nat) (acc:List ByteArray) (w:ae) (hS:iW b acc w) (hn:acc.length<=100000) (hx:x.nm.size<=9223372036854775807):Calls af 37 #[.map (some b),.agg (lZ x)] w (Step b (ek acc (Fw x)) w):=by
 have HS:=hid hS;have FX:=far (w:=w) 93 (lZ x);have oJ:=hid hS.lt;rw[Ww]
 show Calls _ _ _ _ (Step b (dR (jA acc x.nm) (Bz x),jy acc x.nm) w)
 obtain⟨yZ,h2⟩:∃a,jy acc x.nm=a:=⟨_,rfl⟩
 obtain⟨v,hv⟩:∃v,jA acc x.nm=v:=⟨_,rfl⟩
 rw[h2,hv];have CD:=hid (fun W (hW:iW b acc W)=>Ci hv h2 W hW hn hx);clear hS hv h2;by_cases hv0:v=0;rotate_left 1
 · rw[uk hv0];have t1:(v != 0)=true:=bne_iff_ne.2 hv0;go_enter Tryz.func37,Tryz.ntmps37;exact agt
 subst hv0;rw[lJ];obtain⟨ty,hty⟩:∃t,typ x.ty=t:=⟨_,rfl⟩
 obtain⟨ft,hft⟩:∃t,fits x.ty x.n=t:=⟨_,rfl⟩
 have HV:=hid (show Bz x=if ty then (if ft then 0 else 2) else 1 by unfold Bz;rw[hty,hft]);have CT:=hid (fun W=>(show Calls af 70 #[.int .i64 x.ty] W (qA (.bool ty) W) by rw[← hty];exact acM _ W));have CF:=hid (fun W=>(show Calls af 71 #[.int .i64 x.ty,.int .i64 x.n] W (qA (.bool ft) W) by rw[← hft];exact abn _ _ W));clear hty hft
 cases ty with
 | false=>
  rw[show Bz x=1 from HV.out];go_enter Tryz.func37,Tryz.ntmps37;go_wp2_with fail;refine(CD.out _ (HS.out.on bl)).mono ?_;rintro e w2 ⟨rfl,hs2,hb2⟩;have HS2:=hid hs2;have HB2:=hid hb2;have q:=((FX.out _ (Below.refl _ _)).but hb2 (by have:=oJ.out;omega))
  have c1:=q.get (SB x);have c2:=q.get (SC x);clear hs2 hb2 q;go_wp2_with fail;refine(CT.out _).mono ?_;rintro e w3 ⟨rfl,rfl⟩;exact QV
 | true=>
  cases ft with
  | false=>
   rw[show Bz x=2 from HV.out];exact agr
  | true=>
   rw[show Bz x=0 from HV.out];exact agr
theorem ags {p:Prop} (h:p:=by
 go_enter Tryz.func163,Tryz.ntmps163;go_wp2_with fail;refine(CD.out _ (HS.out.on bl)).mono ?_;rintro e w2 ⟨rfl,hs2,hb2⟩;have HS2:=hid hs2;have HB2:=hid hb2;have q:=((FX.out _ (Below.refl _ _)).but hb2 (by have:=oJ.out;omega))
 have c1:=q.get (ZO x);clear hs2 hb2 q;go_wp2_with fail;refine(CT.out _).mono ?_;rintro e w3 ⟨rfl,rfl⟩;exact QV
 ):p:=h
set_option maxRecDepth 100000 in
theorem ajU (x:d_) (b:Nat) (acc:List ByteArray) (w:ae) (hS:iW b acc w) (hn:acc.length<=100000) (hx:x.nm.size<=9223372036854775807):Calls af 163 #[.map (some b),.agg (gI x)] w (Step b (ek acc (JH x)) w):=by
 have HS:=hid hS;have FX:=far (w:=w) 179 (gI x);have oJ:=hid hS.lt;rw[Ww]
 show Calls _ _ _ _ (Step b (dR (jA acc x.nm) (Co x),jy acc x.nm) w)
 obtain⟨yZ,h2⟩:∃a,jy acc x.nm=a:=⟨_,rfl⟩
 obtain⟨v,hv⟩:∃v,jA acc x.nm=v:=⟨_,rfl⟩
 rw[h2,hv];have CD:=hid (fun W (hW:iW b acc W)=>Ci hv h2 W hW hn hx);clear hS hv h2;by_cases hv0:v=0;rotate_left 1
 · rw[uk hv0];have t1:(v != 0)=true:=bne_iff_ne.2 hv0;go_enter Tryz.func163,Tryz.ntmps163;exact agt
 subst hv0;rw[lJ];obtain⟨ty,hty⟩:∃t,typ x.ty=t:=⟨_,rfl⟩
 have HV:=hid (show Co x=if ty then 0 else 1 by unfold Co;rw[hty]);have CT:=hid (fun W=>(show Calls af 70 #[.int .i64 x.ty] W (qA (.bool ty) W) by rw[← hty];exact acM _ W));clear hty
 cases ty with
 | false=>
  rw[show Co x=1 from HV.out];exact ags
 | true=>
  rw[show Co x=0 from HV.out];exact ags
end Md
namespace Md
open Go.RowKit Go.Maps
open Ex (Gives)
attribute [local go_sem] NI ajr ajs Nl ajc ajd
set_option maxHeartbeats 4000000
theorem X4 {p:Prop} (h:p:=by
 go_enter Tryz.func114,Tryz.ntmps114;go_wp2_with fail;refine(CB.out _).mono ?_;rintro e w2 ⟨rfl,rfl⟩;go_wp2_with fail;go_ret;exact⟨rfl,bl⟩
 ):p:=h
theorem X5 {p:Prop} (h:p:=by
 rw[show yJ x=0 by unfold yJ;rw[hr,h];rfl];clear hr;exact X4
 ):p:=h
theorem aj4 (x:iI) (w:ae):Calls af 114 #[.agg (lD x)] w (Gives (.int .i64 (yJ x)) w):=by
 obtain⟨r,hr⟩:∃r,iX 1 x.rm 1000=r:=⟨_,rfl⟩
 have CB:=hid (fun W=>Eb hr W)
 cases r with
 | false=>
  rw[show yJ x=2 by unfold yJ;rw[hr];rfl];clear hr;exact X4
 | true=>
  rcases WO x.po with h|h|h|⟨e1,e2,e3,h1,h2,h3⟩
  · exact X5
  · exact X5
  · exact X5
  · rw[show yJ x=1 by
     have:iX 1 x.po 3=false:=by
      unfold iX;by_cases a:1<=x.po
      · rw[decide_eq_true a,decide_eq_false (by omega)];rfl
      · rw[decide_eq_false a];rfl
     unfold yJ;rw[hr,this];rfl]
    have n1:(x.po != 1)=true:=bne_iff_ne.2 h1;have n2:(x.po != 2)=true:=bne_iff_ne.2 h2;have n3:(x.po != 3)=true:=bne_iff_ne.2 h3;clear hr e1 e2 e3 h1 h2 h3;exact X4
theorem agu {p:Prop} (h:p:=by
 clear hr hs;go_enter Tryz.func117,Tryz.ntmps117;go_wp2_with fail;refine(CB.out _).mono ?_;rintro e w2 ⟨rfl,rfl⟩;go_wp2_with fail;refine(CC.out _).mono ?_;rintro e w2 ⟨rfl,rfl⟩;go_wp2_with fail;go_ret;exact⟨rfl,bl⟩
 ):p:=h
theorem ajS (x:iF) (w:ae):Calls af 117 #[.agg (lC x)] w (Gives (.int .i64 (xV x)) w):=by
 obtain⟨r,hr⟩:∃r,iX 1 x.ln 1000=r:=⟨_,rfl⟩
 obtain⟨s,hs⟩:∃r,iX 1 x.sp 1000=r:=⟨_,rfl⟩
 have CB:=hid (fun W=>Eb hr W);have CC:=hid (fun W=>Eb hs W)
 cases r with
 | false=>
  rw[show xV x=2 by unfold xV;rw[hr];rfl];clear hr hs;go_enter Tryz.func117,Tryz.ntmps117;go_wp2_with fail;refine(CB.out _).mono ?_;rintro e w2 ⟨rfl,rfl⟩;go_wp2_with fail;go_ret;exact⟨rfl,bl⟩
 | true=>
  cases s with
  | false=>
   rw[show xV x=2 by unfold xV;rw[hr,hs];rfl];exact agu
  | true=>
   rw[show xV x=0 by unfold xV;rw[hr,hs];rfl];exact agu
end Md
namespace Md
open Go.RowKit Go.Maps
open Sm (dR um)
open Ex (Lo)
set_option maxHeartbeats 2000000
structure fZ (w0:ae) (b:Nat) (K:ae->Prop) (acc:List ByteArray) (W:ae):Prop where
 below:Below w0.heap.size w0 W
 vR:iW b acc W
 k:K W
def rT (b:Nat) (K:ae->Prop):Prop:=∀W W2,K W->But b W W2->K W2
theorem rT.top (b:Nat):rT b (fun _=>True):=fun _ _ _ _=>trivial
theorem fZ.fine {w0:ae} {b:Nat} {K:ae->Prop} (hb:w0.heap.size<=b) (hK:rT b K):qR w0 (fZ w0 b K) where
 below _ _ h:=h.below
 on s W W2 h hW:=⟨h.below.trans (hW.mono h.below.size),h.vR.on hW,hK W W2 h.k (But.of hW)⟩
theorem fZ.step {w0:ae} {b:Nat} {K:ae->Prop} (hb:w0.heap.size<=b) (hK:rT b K) {acc:List ByteArray} {W:ae} (h:fZ w0 b K acc W) {r:Int×List ByteArray} {e:Ending} {W2:ae} (hs:Step b r W e W2):Does (fZ w0 b K) r e W2:=
 ⟨hs.1,⟨But.below h.below hs.2.2 hb h.below.size,hs.2.1,hK W W2 h.k hs.2.2⟩⟩
theorem aiE (acc:List ByteArray) (x:ByteArray):(jy acc x).length<=acc.length+1:=by
 unfold jy;split <;> simp
theorem TV {α:Type} {g:α->ByteArray×Int}:∀{l:List α} {s:List ByteArray},(dN (fun a x=>ek a (g x)) l s).2.length<=s.length+l.length
 | [],s=>by simp[dN]
 | x::t,s=>by
  have h1:=aiE s (g x).1;rw[dN,Ww]
  split
  · have h2:=TV (g:=g) (l:=t) (s:=jy s (g x).1);rw[List.length_cons]
    show(dN (fun a x=>ek a (g x)) t (jy s (g x).1)).2.length<=_
    omega
  · rw[List.length_cons]
    show(jy s (g x).1).length<=_
    omega
theorem zk {α:Type} {g:α->ByteArray×Int} {most:Nat} {l:List α} {s:List ByteArray}:(dh (fun a x=>ek a (g x)) most l s).2.length<=s.length+most:=by
 unfold dh
 split
 · show s.length<=_;omega
 · have:=TV (g:=g) (l:=l) (s:=s);omega
theorem AA {α:Type} {g:α->ByteArray×Int} {l:List α} {k most:Nat} {s s0:List ByteArray} (hm:l.length<=most) (h:dN (fun a x=>ek a (g x)) (l.take k) s0=(0,s)):s.length<=s0.length+most:=by
 have h1:=TV (g:=g) (l:=l.take k) (s:=s0);rw[h,List.length_take] at h1;have:(s:List ByteArray).length<=s0.length+min k l.length:=h1;omega
theorem Sa (a c:Value):((#[a]:Array Value).push c++#[])=#[a,c]:=rfl
theorem F3 (c a:Value):((#[]:Array Value).push c++#[a])=#[c,a]:=rfl
theorem R_ (c a b:Value):((#[]:Array Value).push c++#[a,b])=#[c,a,b]:=rfl
theorem aaI {w0:ae} {b:Nat} {K:ae->Prop} (hb:w0.heap.size<=b) (hK:rT b K) {l:List Val} {p:Option Addr} {m c:Nat} (hl:Rw 3 fV (Lo w0.heap.size) w0 l p m) (hz:∀x∈l,x.nm.size<=9223372036854775807) (most:Nat) (t_:most<=1000) (s0:List ByteArray) (h0:s0.length<=50000) (W:ae) (hW:fZ w0 b K s0 W) :
 Calls af 36 #[.slice p m c,.int .i64 (most:Int),.func (.func 37) #[.map (some b)] #[]] W (Does (fZ w0 b K) (dh ek most (l.map Fw) s0)):=by
 rw[pQ];refine alr (hid hl) #[.map (some b)] #[] (fZ w0 b K) (hid (fZ.fine hb hK)) (fun a x=>ek a (Fw x)) most (by omega) s0 (hid fun k s x c W hx hm hg hR hI=>?_) W (hid hW);rw[Sa,show c=lZ x from hR];have:=AA hm hg;exact(aj6 x b s W hI.vR (by omega) (hz x (List.mem_of_getElem? hx))).mono fun e W2 h=>hI.step hb hK h
theorem alu {w0:ae} {b:Nat} {K:ae->Prop} (hb:w0.heap.size<=b) (hK:rT b K) {l:List d_} {p:Option Addr} {m c:Nat} (hl:Rw 2 dH (Lo w0.heap.size) w0 l p m) (hz:∀x∈l,x.nm.size<=9223372036854775807) (most:Nat) (t_:most<=1000) (s0:List ByteArray) (h0:s0.length<=50000) (W:ae) (hW:fZ w0 b K s0 W) :
 Calls af 162 #[.slice p m c,.int .i64 (most:Int),.func (.func 163) #[.map (some b)] #[]] W (Does (fZ w0 b K) (dh (fun a f=>ek a (JH f)) most l s0)):=by
 refine alg (hid hl) #[.map (some b)] #[] (fZ w0 b K) (hid (fZ.fine hb hK)) (fun a x=>ek a (JH x)) most (by omega) s0 (hid fun k s x c W hx hm hg hR hI=>?_) W (hid hW);rw[Sa,show c=gI x from hR];have:=AA hm hg;exact(ajU x b s W hI.vR (by omega) (hz x (List.mem_of_getElem? hx))).mono fun e W2 h=>hI.step hb hK h
theorem Jz {w0:ae} {b:Nat} {K:ae->Prop} (hb:w0.heap.size<=b) (hK:rT b K) {l:List ByteArray} {p:Option Addr} {m c:Nat} (hl:Rw 1 dP (Lo w0.heap.size) w0 l p m) (hz:∀x∈l,x.size<=9223372036854775807) (most:Nat) (t_:most<=1000) (s0:List ByteArray) (h0:s0.length<=50000) (W:ae) (hW:fZ w0 b K s0 W) :
 Calls af 118 #[.slice p m c,.int .i64 (most:Int),.func (.func 69) #[.map (some b)] #[]] W (Does (fZ w0 b K) (dh ek most (l.map qK) s0)):=by
 rw[pQ];refine alq (hid hl) #[.map (some b)] #[] (fZ w0 b K) (hid (fZ.fine hb hK)) (fun a x=>ek a (qK x)) most (by omega) s0 (hid fun k s x W hx hm hg hI=>?_) W (hid hW);rw[Sa];have:=AA hm hg;refine(aaf b s x W hI.vR (by omega) (hz x (List.mem_of_getElem? hx))).mono fun e W2 h=>hI.step hb hK ?_;obtain⟨h1,h2,h3⟩:=h;refine⟨?_,h2,h3⟩;rw[h1]
 show _=Ending.returned (.int .i64 (dR (jA s x) 0))
 rw[um]
end Md
end Go.Proofs.YtbgodajefaahdaaGreatDoor
