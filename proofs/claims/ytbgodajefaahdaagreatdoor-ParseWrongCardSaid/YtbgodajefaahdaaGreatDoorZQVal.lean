/-
  Parts of this proof: The contracts of checkValue and checkField, and . The contracts of checkStore, checkBelt and of th. Lists of declarations in a scope.
-/
import Derived.Test.YtbgodajefaahdaaGreatDoorZQScp
import Derived.Test.YtbgodajefaahdaaGreatDoorZQEach
import Derived.Test.YtbgodajefaahdaaGreatDoorZTUpt
set_option linter.unusedVariables false
open Go.Lib (hid)
namespace Go.Proofs.YtbgodajefaahdaaGreatDoor.Md
open Go.RowKit Go.Maps
open Go.Proofs.YtbgodajefaahdaaGreatDoor.Sm (orE orE_no orE_yes)
attribute [local go_sem] cVal0 cVal1 cVal2 cFld0 cFld1
set_option maxHeartbeats 2000000
theorem Scp.lt {b:Nat} {acc:List ByteArray} {w:World} (h:Scp b acc w):b<w.heap.size:=by
 obtain⟨es,clock,hb,-⟩:=h;exact(Array.getElem?_eq_some_iff.1 hb).1
def Step (b:Nat) (r:Int×List ByteArray) (w:World) (e:Ending) (w':World):Prop:=e=.returned (.int .i64 r.1)/\Scp b r.2 w'/\But b w w'
theorem stepN_eq (acc:List ByteArray) (p:ByteArray×Int):stepN acc p=(orE (decE acc p.1) p.2,accS acc p.1):=rfl
theorem zEO_2 {p:Prop} (h:p:=by
 go_wp2_with fail;go_ret;exact⟨rfl,HS2.out,(But.of bl).trans HB2.out⟩
 ):p:=h
theorem zEO_0 {p:Prop} (h:p:=by
 go_enter Tryz.func37,Tryz.ntmps37;go_wp2_with fail;refine(CD.out _ (HS.out.on bl)).mono ?_;rintro e w2 ⟨rfl,hs2,hb2⟩;have HS2:=hid hs2;have HB2:=hid hb2;have q:=((FX.out _ (Below.refl _ _)).but hb2 (by have:=HLT.out;omega))
 have c1:=q.get (cVal1 x);have c2:=q.get (cVal2 x);clear hs2 hb2 q;go_wp2_with fail;refine(CT.out _).mono ?_;rintro e w3 ⟨rfl,rfl⟩;go_wp2_with fail;refine(CF.out _).mono ?_;rintro e w3 ⟨rfl,rfl⟩;exact zEO_2
 ):p:=h
theorem zEO_3 {p:Prop} (h:p:=by
 go_wp2_with fail;refine(CD.out _ (HS.out.on bl)).mono ?_;rintro e w2 ⟨rfl,hs2,hb2⟩;have HS2:=hid hs2;have HB2:=hid hb2;clear hs2 hb2;exact zEO_2
 ):p:=h
set_option maxRecDepth 100000 in
theorem checkValue_any (x:Val) (b:Nat) (acc:List ByteArray) (w:World) (hS:Scp b acc w) (hn:acc.length<=100000) (hx:x.nm.size<=9223372036854775807):Calls Tryz.prog 37 #[.map (some b),.agg (cVal x)] w (Step b (stepN acc (valP x)) w):=by
 have HS:=hid hS;have FX:=far (w:=w) 93 (cVal x);have HLT:=hid hS.lt;rw[stepN_eq]
 show Calls _ _ _ _ (Step b (orE (decE acc x.nm) (valT x),accS acc x.nm) w)
 obtain⟨acc2,h2⟩:∃a,accS acc x.nm=a:=⟨_,rfl⟩
 obtain⟨v,hv⟩:∃v,decE acc x.nm=v:=⟨_,rfl⟩
 rw[h2,hv];have CD:=hid (fun W (hW:Scp b acc W)=>declare_at hv h2 W hW hn hx);clear hS hv h2;by_cases hv0:v=0;rotate_left 1
 · rw[orE_no hv0];have t1:(v != 0)=true:=bne_iff_ne.2 hv0;go_enter Tryz.func37,Tryz.ntmps37;exact zEO_3
 subst hv0;rw[orE_yes];obtain⟨ty,hty⟩:∃t,typ x.ty=t:=⟨_,rfl⟩
 obtain⟨ft,hft⟩:∃t,fits x.ty x.n=t:=⟨_,rfl⟩
 have HV:=hid (show valT x=if ty then (if ft then 0 else 2) else 1 by unfold valT;rw[hty,hft]);have CT:=hid (fun W=>(show Calls Tryz.prog 70 #[.int .i64 x.ty] W (Stay (.bool ty) W) by rw[← hty];exact isType_any _ W));have CF:=hid (fun W=>(show Calls Tryz.prog 71 #[.int .i64 x.ty,.int .i64 x.n] W (Stay (.bool ft) W) by rw[← hft];exact fits_any _ _ W));clear hty hft
 cases ty with
 | false=>
  rw[show valT x=1 from HV.out];go_enter Tryz.func37,Tryz.ntmps37;go_wp2_with fail;refine(CD.out _ (HS.out.on bl)).mono ?_;rintro e w2 ⟨rfl,hs2,hb2⟩;have HS2:=hid hs2;have HB2:=hid hb2;have q:=((FX.out _ (Below.refl _ _)).but hb2 (by have:=HLT.out;omega))
  have c1:=q.get (cVal1 x);have c2:=q.get (cVal2 x);clear hs2 hb2 q;go_wp2_with fail;refine(CT.out _).mono ?_;rintro e w3 ⟨rfl,rfl⟩;exact zEO_2
 | true=>
  cases ft with
  | false=>
   rw[show valT x=2 from HV.out];exact zEO_0
  | true=>
   rw[show valT x=0 from HV.out];exact zEO_0
theorem zEO_1 {p:Prop} (h:p:=by
 go_enter Tryz.func163,Tryz.ntmps163;go_wp2_with fail;refine(CD.out _ (HS.out.on bl)).mono ?_;rintro e w2 ⟨rfl,hs2,hb2⟩;have HS2:=hid hs2;have HB2:=hid hb2;have q:=((FX.out _ (Below.refl _ _)).but hb2 (by have:=HLT.out;omega))
 have c1:=q.get (cFld1 x);clear hs2 hb2 q;go_wp2_with fail;refine(CT.out _).mono ?_;rintro e w3 ⟨rfl,rfl⟩;exact zEO_2
 ):p:=h
set_option maxRecDepth 100000 in
theorem checkField_any (x:Fld) (b:Nat) (acc:List ByteArray) (w:World) (hS:Scp b acc w) (hn:acc.length<=100000) (hx:x.nm.size<=9223372036854775807):Calls Tryz.prog 163 #[.map (some b),.agg (cFld x)] w (Step b (stepN acc (fldP x)) w):=by
 have HS:=hid hS;have FX:=far (w:=w) 179 (cFld x);have HLT:=hid hS.lt;rw[stepN_eq]
 show Calls _ _ _ _ (Step b (orE (decE acc x.nm) (fldT x),accS acc x.nm) w)
 obtain⟨acc2,h2⟩:∃a,accS acc x.nm=a:=⟨_,rfl⟩
 obtain⟨v,hv⟩:∃v,decE acc x.nm=v:=⟨_,rfl⟩
 rw[h2,hv];have CD:=hid (fun W (hW:Scp b acc W)=>declare_at hv h2 W hW hn hx);clear hS hv h2;by_cases hv0:v=0;rotate_left 1
 · rw[orE_no hv0];have t1:(v != 0)=true:=bne_iff_ne.2 hv0;go_enter Tryz.func163,Tryz.ntmps163;exact zEO_3
 subst hv0;rw[orE_yes];obtain⟨ty,hty⟩:∃t,typ x.ty=t:=⟨_,rfl⟩
 have HV:=hid (show fldT x=if ty then 0 else 1 by unfold fldT;rw[hty]);have CT:=hid (fun W=>(show Calls Tryz.prog 70 #[.int .i64 x.ty] W (Stay (.bool ty) W) by rw[← hty];exact isType_any _ W));clear hty
 cases ty with
 | false=>
  rw[show fldT x=1 from HV.out];exact zEO_1
 | true=>
  rw[show fldT x=0 from HV.out];exact zEO_1
end Go.Proofs.YtbgodajefaahdaaGreatDoor.Md
namespace Go.Proofs.YtbgodajefaahdaaGreatDoor.Md
open Go.RowKit Go.Maps
open Go.Proofs.YtbgodajefaahdaaGreatDoor.Ex (Gives)
attribute [local go_sem] cSto0 cSto1 cSto2 cBlt0 cBlt1 cBlt2
set_option maxHeartbeats 4000000
theorem zEP_0 {p:Prop} (h:p:=by
 go_enter Tryz.func114,Tryz.ntmps114;go_wp2_with fail;refine(CB.out _).mono ?_;rintro e w2 ⟨rfl,rfl⟩;go_wp2_with fail;go_ret;exact⟨rfl,bl⟩
 ):p:=h
theorem zEP_2 {p:Prop} (h:p:=by
 rw[show stoT x=0 by unfold stoT;rw[hr,h];rfl];clear hr;exact zEP_0
 ):p:=h
theorem checkStore_any (x:Sto) (w:World):Calls Tryz.prog 114 #[.agg (cSto x)] w (Gives (.int .i64 (stoT x)) w):=by
 obtain⟨r,hr⟩:∃r,btw 1 x.rm 1000=r:=⟨_,rfl⟩
 have CB:=hid (fun W=>between_gives hr W)
 cases r with
 | false=>
  rw[show stoT x=2 by unfold stoT;rw[hr];rfl];clear hr;exact zEP_0
 | true=>
  rcases ty_cases x.po with h|h|h|⟨e1,e2,e3,h1,h2,h3⟩
  · exact zEP_2
  · exact zEP_2
  · exact zEP_2
  · rw[show stoT x=1 by
     have:btw 1 x.po 3=false:=by
      unfold btw;by_cases a:1<=x.po
      · rw[decide_eq_true a,decide_eq_false (by omega)];rfl
      · rw[decide_eq_false a];rfl
     unfold stoT;rw[hr,this];rfl]
    have n1:(x.po != 1)=true:=bne_iff_ne.2 h1;have n2:(x.po != 2)=true:=bne_iff_ne.2 h2;have n3:(x.po != 3)=true:=bne_iff_ne.2 h3;clear hr e1 e2 e3 h1 h2 h3;exact zEP_0
theorem zEP_1 {p:Prop} (h:p:=by
 clear hr hs;go_enter Tryz.func117,Tryz.ntmps117;go_wp2_with fail;refine(CB.out _).mono ?_;rintro e w2 ⟨rfl,rfl⟩;go_wp2_with fail;refine(CC.out _).mono ?_;rintro e w2 ⟨rfl,rfl⟩;go_wp2_with fail;go_ret;exact⟨rfl,bl⟩
 ):p:=h
theorem checkBelt_any (x:Blt) (w:World):Calls Tryz.prog 117 #[.agg (cBlt x)] w (Gives (.int .i64 (bltT x)) w):=by
 obtain⟨r,hr⟩:∃r,btw 1 x.ln 1000=r:=⟨_,rfl⟩
 obtain⟨s,hs⟩:∃r,btw 1 x.sp 1000=r:=⟨_,rfl⟩
 have CB:=hid (fun W=>between_gives hr W);have CC:=hid (fun W=>between_gives hs W)
 cases r with
 | false=>
  rw[show bltT x=2 by unfold bltT;rw[hr];rfl];clear hr hs;go_enter Tryz.func117,Tryz.ntmps117;go_wp2_with fail;refine(CB.out _).mono ?_;rintro e w2 ⟨rfl,rfl⟩;go_wp2_with fail;go_ret;exact⟨rfl,bl⟩
 | true=>
  cases s with
  | false=>
   rw[show bltT x=2 by unfold bltT;rw[hr,hs];rfl];exact zEP_1
  | true=>
   rw[show bltT x=0 by unfold bltT;rw[hr,hs];rfl];exact zEP_1
end Go.Proofs.YtbgodajefaahdaaGreatDoor.Md
namespace Go.Proofs.YtbgodajefaahdaaGreatDoor.Md
open Go.RowKit Go.Maps
open Go.Proofs.YtbgodajefaahdaaGreatDoor.Sm (orE orE_right)
open Go.Proofs.YtbgodajefaahdaaGreatDoor.Ex (Lo)
set_option maxHeartbeats 2000000
structure Sco (w0:World) (b:Nat) (K:World->Prop) (acc:List ByteArray) (W:World):Prop where
 below:Below w0.heap.size w0 W
 scp:Scp b acc W
 k:K W
def Stb (b:Nat) (K:World->Prop):Prop:=∀W W2,K W->But b W W2->K W2
theorem Stb.top (b:Nat):Stb b (fun _=>True):=fun _ _ _ _=>trivial
theorem Sco.fine {w0:World} {b:Nat} {K:World->Prop} (hb:w0.heap.size<=b) (hK:Stb b K):Fine w0 (Sco w0 b K) where
 below _ _ h:=h.below
 on s W W2 h hW:=⟨h.below.trans (hW.mono h.below.size),h.scp.on hW,hK W W2 h.k (But.of hW)⟩
theorem Sco.step {w0:World} {b:Nat} {K:World->Prop} (hb:w0.heap.size<=b) (hK:Stb b K) {acc:List ByteArray} {W:World} (h:Sco w0 b K acc W) {r:Int×List ByteArray} {e:Ending} {W2:World} (hs:Step b r W e W2):Does (Sco w0 b K) r e W2:=
 ⟨hs.1,⟨But.below h.below hs.2.2 hb h.below.size,hs.2.1,hK W W2 h.k hs.2.2⟩⟩
theorem accS_len (acc:List ByteArray) (x:ByteArray):(accS acc x).length<=acc.length+1:=by
 unfold accS;split <;> simp
theorem goN_len {α:Type} {g:α->ByteArray×Int}:∀{l:List α} {s:List ByteArray},(goE (fun a x=>stepN a (g x)) l s).2.length<=s.length+l.length
 | [],s=>by simp[goE]
 | x::t,s=>by
  have h1:=accS_len s (g x).1;rw[goE,stepN_eq]
  split
  · have h2:=goN_len (g:=g) (l:=t) (s:=accS s (g x).1);rw[List.length_cons]
    show(goE (fun a x=>stepN a (g x)) t (accS s (g x).1)).2.length<=_
    omega
  · rw[List.length_cons]
    show(accS s (g x).1).length<=_
    omega
theorem eachN_len {α:Type} {g:α->ByteArray×Int} {most:Nat} {l:List α} {s:List ByteArray}:(eachE (fun a x=>stepN a (g x)) most l s).2.length<=s.length+most:=by
 unfold eachE
 split
 · show s.length<=_;omega
 · have:=goN_len (g:=g) (l:=l) (s:=s);omega
theorem go_short {α:Type} {g:α->ByteArray×Int} {l:List α} {k most:Nat} {s s0:List ByteArray} (hm:l.length<=most) (h:goE (fun a x=>stepN a (g x)) (l.take k) s0=(0,s)):s.length<=s0.length+most:=by
 have h1:=goN_len (g:=g) (l:=l.take k) (s:=s0);rw[h,List.length_take] at h1;have:(s:List ByteArray).length<=s0.length+min k l.length:=h1;omega
theorem arg2 (a c:Value):((#[a]:Array Value).push c++#[])=#[a,c]:=rfl
theorem arg1 (c a:Value):((#[]:Array Value).push c++#[a])=#[c,a]:=rfl
theorem arg1b (c a b:Value):((#[]:Array Value).push c++#[a,b])=#[c,a,b]:=rfl
theorem each_vals {w0:World} {b:Nat} {K:World->Prop} (hb:w0.heap.size<=b) (hK:Stb b K) {l:List Val} {p:Option Addr} {m c:Nat} (hl:Rw 3 RVal (Lo w0.heap.size) w0 l p m) (hz:∀x∈l,x.nm.size<=9223372036854775807) (most:Nat) (hmost:most<=1000) (s0:List ByteArray) (h0:s0.length<=50000) (W:World) (hW:Sco w0 b K s0 W) :
 Calls Tryz.prog 36 #[.slice p m c,.int .i64 (most:Int),.func (.func 37) #[.map (some b)] #[]] W (Does (Sco w0 b K) (eachE stepN most (l.map valP) s0)):=by
 rw[eachE_map];refine each_Val (hid hl) #[.map (some b)] #[] (Sco w0 b K) (hid (Sco.fine hb hK)) (fun a x=>stepN a (valP x)) most (by omega) s0 (hid fun k s x c W hx hm hg hR hI=>?_) W (hid hW);rw[arg2,show c=cVal x from hR];have:=go_short hm hg;exact(checkValue_any x b s W hI.scp (by omega) (hz x (List.mem_of_getElem? hx))).mono fun e W2 h=>hI.step hb hK h
theorem each_flds {w0:World} {b:Nat} {K:World->Prop} (hb:w0.heap.size<=b) (hK:Stb b K) {l:List Fld} {p:Option Addr} {m c:Nat} (hl:Rw 2 RFld (Lo w0.heap.size) w0 l p m) (hz:∀x∈l,x.nm.size<=9223372036854775807) (most:Nat) (hmost:most<=1000) (s0:List ByteArray) (h0:s0.length<=50000) (W:World) (hW:Sco w0 b K s0 W) :
 Calls Tryz.prog 162 #[.slice p m c,.int .i64 (most:Int),.func (.func 163) #[.map (some b)] #[]] W (Does (Sco w0 b K) (eachE (fun a f=>stepN a (fldP f)) most l s0)):=by
 refine each_Fld (hid hl) #[.map (some b)] #[] (Sco w0 b K) (hid (Sco.fine hb hK)) (fun a x=>stepN a (fldP x)) most (by omega) s0 (hid fun k s x c W hx hm hg hR hI=>?_) W (hid hW);rw[arg2,show c=cFld x from hR];have:=go_short hm hg;exact(checkField_any x b s W hI.scp (by omega) (hz x (List.mem_of_getElem? hx))).mono fun e W2 h=>hI.step hb hK h
theorem each_txts {w0:World} {b:Nat} {K:World->Prop} (hb:w0.heap.size<=b) (hK:Stb b K) {l:List ByteArray} {p:Option Addr} {m c:Nat} (hl:Rw 1 RTxt (Lo w0.heap.size) w0 l p m) (hz:∀x∈l,x.size<=9223372036854775807) (most:Nat) (hmost:most<=1000) (s0:List ByteArray) (h0:s0.length<=50000) (W:World) (hW:Sco w0 b K s0 W) :
 Calls Tryz.prog 118 #[.slice p m c,.int .i64 (most:Int),.func (.func 69) #[.map (some b)] #[]] W (Does (Sco w0 b K) (eachE stepN most (l.map txtP) s0)):=by
 rw[eachE_map];refine each_Txt (hid hl) #[.map (some b)] #[] (Sco w0 b K) (hid (Sco.fine hb hK)) (fun a x=>stepN a (txtP x)) most (by omega) s0 (hid fun k s x W hx hm hg hI=>?_) W (hid hW);rw[arg2];have:=go_short hm hg;refine(declare_any b s x W hI.scp (by omega) (hz x (List.mem_of_getElem? hx))).mono fun e W2 h=>hI.step hb hK ?_;obtain⟨h1,h2,h3⟩:=h;refine⟨?_,h2,h3⟩;rw[h1]
 show _=Ending.returned (.int .i64 (orE (decE s x) 0))
 rw[orE_right]
end Go.Proofs.YtbgodajefaahdaaGreatDoor.Md
