/-
  Parts of this proof: The contracts of checkSchedule and checkResource. The contracts of the closures that look for a na.
-/
import Derived.Test.YthnillhnjhalmaaGreatDoorYLxAcc
import Derived.Test.YthnillhnjhalmaaGreatDoorYTSzS
open Go.Proofs.Tryz
open Go.Proofs.Tryz renaming prog->ae
open Option renaming none->af,some->ag
open Go renaming Calls->ah,World->ai
set_option linter.unusedVariables false
set_option maxRecDepth 100000
set_option maxHeartbeats 4000000
open Go.Lib (hid)
namespace Go.Proofs.YthnillhnjhalmaaGreatDoor
namespace Md
open Go.RowKit Go.Maps
open Sm (dQ tF kV tH BX)
open Ex (Lo Gives take_one nZ)
def Gc:Option dV->List dV->Option dV
 | p,[]=>p
 | _,c::t=>Gc (ag c) t
theorem abq:∀{p:Option dV} {a:List dV} {x:dV},Gc p (a++[x])=ag x
 | p,[],x=>rfl
 | p,c::t,x=>by rw[List.cons_append,Gc];exact abq
theorem X8 {cy:Int}:∀{p:Option dV} {a:List dV} {x:dV},mr cy p (a++[x])=dQ (mr cy p a) (vP cy (Gc p a) x)
 | p,[],x=>by
  show dQ (vP cy p x) (mr cy (ag x) [])=dQ 0 (vP cy p x)
  rw[kV];exact tH _
 | p,c::t,x=>by rw[List.cons_append,mr,mr,X8,BX];rfl
theorem X6 {cy:Int}:∀{p:Option dV} {a b:List dV},mr cy p (a++b)=dQ (mr cy p a) (mr cy (Gc p a) b)
 | p,[],b=>kV.symm
 | p,c::t,b=>by rw[List.cons_append,mr,mr,X6,BX];rfl
def AV (l:List dV) (k:Nat):Option dV:=Gc af (l.take k)
theorem amX {l:List dV} {j:Nat} {y:dV} (h:l[j]?=ag y):AV l (j+1)=ag y:=by unfold AV;rw[take_one h,abq]
theorem X7 {cy:Int} {l:List dV} {k:Nat} {x:dV} (hx:l[k]?=ag x) (h:mr cy af (l.take k)=0) (h1:vP cy (AV l k) x=0):mr cy af (l.take (k+1))=0:=by
 rw[take_one hx,X8,h,kV];exact h1
theorem Q_ {cy:Int} {l:List dV} {k:Nat} {x:dV} (hx:l[k]?=ag x) (h:mr cy af (l.take k)=0) (h1:¬vP cy (AV l k) x=0):mr cy af l=vP cy (AV l k) x:=by
 obtain⟨hk,e⟩:=List.getElem?_eq_some_iff.1 hx;have h2:=List.take_append_drop k l;rw[List.drop_eq_getElem_cons hk,e] at h2;have h3:=X6 (cy:=cy) (p:=af) (a:=l.take k) (b:=x::l.drop (k+1));rw[h2,h,kV,mr] at h3;rw[h3];exact tF h1
theorem atU {p:Prop} (h:p:=by
 go_wp2_with fail;go_ret;exact⟨nZ HN.out.symm,by have bZ:=HW.out;exact bl⟩
 ):p:=h
theorem atV {p:Prop} (h:p:=by
 go_enter func188,ntmps188;exact dS
 ):p:=h
theorem ahC (l:List dV) (p:Option Addr) (m c:Nat) (cy:Int) (w:ai) (hl:Rw 2 jd (Lo w.heap.size) w l p m):ah ae 188 #[.slice p m c,.int .i64 cy] w (Gives (.int .i64 (uT l cy)) w):=by
 have HH:=hid hl;obtain⟨hlm,hm⟩:=hl.len;have HL:=hid hlm;clear hl;by_cases hm0:m=0
 · subst hm0;by_cases hc:cy=0
   · subst hc;rw[show uT l 0=0 by unfold uT;rw[hlm];rfl];clear hlm hm;exact atV
   · have c1:(cy==0)=false:=beq_eq_false_iff_ne.2 hc;rw[show uT l cy=1 by unfold uT;rw[hlm,if_pos rfl,if_neg hc]];clear hlm hm hc;exact atV
 have e1:((m:Int)==0)=false:=beq_eq_false_iff_ne.2 bU;by_cases h20:20<m
 · have e2:decide ((20:Int)<(m:Int))=true:=decide_eq_true bU;have e3:(20:Int)<(m:Int):=by omega
   rw[show uT l cy=6 by unfold uT;rw[hlm,if_neg hm0,if_pos h20]];clear hlm hm hm0 h20;exact atV
 have e2:decide ((20:Int)<(m:Int))=false:=decide_eq_false bU;have e3:(m:Int)<=20:=by omega
 obtain⟨r,hr⟩:∃r,iL 1 cy 1000000000=r:=⟨_,rfl⟩
 have CB:=hid (fun W=>Dl hr W);have HE:Hid (uT l cy=if r then mr cy af l else 2):=hid (by unfold uT;rw[hlm,if_neg hm0,if_neg h20,hr])
 cases r with
 | false=>
  rw[show uT l cy=2 from HE.out];clear hlm hm hm0 h20 hr;go_enter func188,ntmps188;exact We
 | true=>
  rw[show uT l cy=mr cy af l from HE.out];have hcy:1<=cy/\cy<=1000000000:=by
   unfold iL at hr
   simpa using hr
  have cy1:=hcy.1;have cy2:=hcy.2;clear hlm hm hm0 h20 hr hcy;go_enter func188,ntmps188;go_wp2_with fail;refine(CB.out _).mono ?_;rintro e w2 ⟨rfl,rfl⟩;go_wp2_with fail;go_loopw [29] (fun i wr=>∃k:Nat,k<=m/\i=.int .i64 (k:Nat)/\Hid (Below w.heap.size w wr)/\Hid (mr cy af (l.take k)=0)) (fun i _=>m-(intOf i).toNat)
  case atStart=>exact⟨0,Nat.zero_le _,rfl,hid bl,hid rfl⟩
  case round=>
   obtain⟨k,hk,rfl,HW,HA⟩:=hrel;have k0:(0:Int)<=(k:Int):=by omega
   rcases Nat.lt_or_ge k m with h|h
   · have k1:(k:Int)<(m:Int):=by omega
     have hkl:k<l.length:=by rw[HL.out];exact h
     have hgx:=List.getElem?_eq_getElem hkl;obtain⟨b,o,rfl,mD,hG,hcell⟩:=(HH.out.below jd.map HW.out).rows bU;obtain⟨d,hds,hat,hR⟩:=hcell.out k hkl;have WK:=hcell;obtain⟨x,hx⟩:∃x,l[k]=x:=⟨_,rfl⟩
     rw[hx] at hgx hR;have a0:=hat.get (r:=0) (v:=.int .i64 x.t) (by rw[hR];rfl);have a1:=hat.get (r:=1) (v:=.int .i64 x.u) (by rw[hR];rfl);rw[show o+k*2+0=o+k*2 by omega] at a0;have HX:=hid hgx;have HG:=hid hG;obtain⟨q1,hq1⟩:∃r,iL 0 x.t (cy-1)=r:=⟨_,rfl⟩
     obtain⟨q2,hq2⟩:∃r,Jg x.u=r:=⟨_,rfl⟩
     have C1:=hid (fun W=>Dl hq1 W);have C2:=hid (fun W=>(show ah ae 187 #[.int .i64 x.u] W (oW (.bool q2) W) by rw[← hq2];exact aaJ _ W));have uf:Hid (∀pr,vP cy pr x=if q1&&q2 then (match pr with|none=>0|some d=>if x.t<=d.t then 12 else 0) else 2):=hid (fun pr=>by unfold vP;rw[hq1,hq2];cases pr <;> rfl);clear hcell hds hat hR hgx hx hkl hq1 hq2
     cases q1 with
     | false=>
      have HN:=hid (Q_ HX.out HA.out (by rw[uf.out];simp));rw[show vP cy (AV l k) x=2 by rw[uf.out];rfl] at HN;clear uf;go_wp2_with fail;refine(C1.out _).mono ?_;rintro e w3 ⟨rfl,rfl⟩;exact atU
     | true=>
      cases q2 with
      | false=>
       have HN:=hid (Q_ HX.out HA.out (by rw[uf.out];simp));rw[show vP cy (AV l k) x=2 by rw[uf.out];rfl] at HN;clear uf;go_wp2_with fail;refine(C1.out _).mono ?_;rintro e w3 ⟨rfl,rfl⟩;go_wp2_with fail;refine(C2.out _).mono ?_;rintro e w3 ⟨rfl,rfl⟩;exact atU
      | true=>
       rcases Nat.eq_zero_or_pos k with hk0|hk0
       · subst hk0;rw[show o+0*2=o by omega] at a0 a1;have HN:=hid (X7 HX.out HA.out (by rw[uf.out];rfl));clear uf;go_wp2_with fail;refine(C1.out _).mono ?_;rintro e w3 ⟨rfl,rfl⟩;go_wp2_with fail;refine(C2.out _).mono ?_;rintro e w3 ⟨rfl,rfl⟩;go_wp2_with fail
         go_quiet (fail)
         go_wp2_with fail;go_roundw
         case rel=>exact⟨0+1,by omega,by go_num,hid rq,HN⟩
         case measure=>simp[intOf];omega
       · obtain⟨j,hj⟩:∃j,k=j+1:=⟨k-1,by omega⟩
         have hjl:j<l.length:=by rw[HL.out];omega
         obtain⟨d,hds,hat,hR⟩:=WK.out j hjl;have BJ:=List.getElem?_eq_getElem hjl;obtain⟨y,hy⟩:∃y,l[j]=y:=⟨_,rfl⟩
         rw[hy] at BJ hR;have f0:=hat.get (r:=0) (v:=.int .i64 y.t) (by rw[hR];rfl);rw[show o+j*2+0=o+j*2 by omega] at f0;have HP:Hid (AV l k=ag y):=hid (by rw[hj];exact amX BJ);have HO:Hid (k=j+1):=hid hj;have g1:(k:Int)-1=(j:Int):=by omega
         have g2:(0:Int)<=(j:Int):=by omega
         have g3:(j:Int)<(m:Int):=by omega
         have g4:IntKind.i64.wrap (j:Int)=(j:Int):=by rw[IntKind.wrap_i64];omega
         have g5:decide ((0:Int)<(k:Int))=true:=decide_eq_true bU;have g6:decide (0<k)=true:=decide_eq_true hk0;clear hjl hds hat hR BJ hy hj WK;by_cases hxy:x.t<=y.t
         · have HN:=hid (Q_ HX.out HA.out (by rw[uf.out,HP.out];simp[hxy]));rw[show vP cy (AV l k) x=12 by rw[uf.out,HP.out];exact if_pos hxy] at HN;have g7:=decide_eq_true hxy;clear uf HP;go_wp2_with fail;refine(C1.out _).mono ?_;rintro e w3 ⟨rfl,rfl⟩;go_wp2_with fail;refine(C2.out _).mono ?_;rintro e w3 ⟨rfl,rfl⟩;go_wp2_with fail
           go_quiet (fail)
           exact atU
         · have HN:=hid (X7 HX.out HA.out (by rw[uf.out,HP.out];exact if_neg hxy));have g7:=decide_eq_false hxy;clear uf HP;go_wp2_with fail;refine(C1.out _).mono ?_;rintro e w3 ⟨rfl,rfl⟩;go_wp2_with fail;refine(C2.out _).mono ?_;rintro e w3 ⟨rfl,rfl⟩;go_wp2_with fail
           go_quiet (fail)
           exact ae9
   · obtain rfl:m=k:=by omega
     have HT:=hid (show mr cy af l=0 by have h1:=HA.out;rwa [List.take_of_length_le t_] at h1);go_wp2_with fail;go_ret;exact⟨nZ HT.out.symm,HW.out⟩
end Md
namespace Md
open Go.RowKit
open Na (kH fst)
open Ex (Lo Gives block_lt)
attribute [local go_sem] X4 QU Ma LY L8 QW QQ QR QT XA L_
theorem ahY (x:Val) (s:ByteArray) (B:Nat) (w:ai) (hB:w.cell? ⟨B,0,af⟩=ag (.string s)):ah ae 257 #[.agg (ni x),.pointer (ag ⟨B,0,af⟩)] w (Gives (.bool (gP x.nm s)) w):=by
 have hl:=block_lt hB;have hne:B≠w.heap.size:=by have:B<w.heap.size:=hl;omega
 have u1:(x.nm.toList==s.toList)=gP x.nm s:=Cn _ _;obtain⟨r,hr⟩:∃r,gP x.nm s=r:=⟨_,rfl⟩
 rw[hr] at u1 ⊢;clear hr;cases r
 · go_enter func257,ntmps257;exact dS
 · go_enter func257,ntmps257;exact dS
theorem ahU (x:dx) (P:eO) (s:ByteArray) (B:Nat) (w:ai) (hB:w.cell? ⟨B,0,af⟩=ag (.string s)):ah ae 259 #[.agg (d_ x P),.pointer (ag ⟨B,0,af⟩)] w (Gives (.bool (gP x.nm s)) w):=by
 have hl:=block_lt hB;have hne:B≠w.heap.size:=by have:B<w.heap.size:=hl;omega
 have u1:(x.nm.toList==s.toList)=gP x.nm s:=Cn _ _;obtain⟨r,hr⟩:∃r,gP x.nm s=r:=⟨_,rfl⟩
 rw[hr] at u1 ⊢;clear hr;cases r
 · go_enter func259,ntmps259;exact dS
 · go_enter func259,ntmps259;exact dS
theorem ahX (x:ko) (s:ByteArray) (B:Nat) (w:ai) (hB:w.cell? ⟨B,0,af⟩=ag (.string s)):ah ae 261 #[.agg (mq x),.pointer (ag ⟨B,0,af⟩)] w (Gives (.bool (gP x.nm s)) w):=by
 have hl:=block_lt hB;have hne:B≠w.heap.size:=by have:B<w.heap.size:=hl;omega
 have u1:(x.nm.toList==s.toList)=gP x.nm s:=Cn _ _;obtain⟨r,hr⟩:∃r,gP x.nm s=r:=⟨_,rfl⟩
 rw[hr] at u1 ⊢;clear hr;cases r
 · go_enter func261,ntmps261;exact dS
 · go_enter func261,ntmps261;exact dS
theorem ahT (x:j_) (s:ByteArray) (B:Nat) (w:ai) (hB:w.cell? ⟨B,0,af⟩=ag (.string s)):ah ae 263 #[.agg (mo x),.pointer (ag ⟨B,0,af⟩)] w (Gives (.bool (gP x.nm s)) w):=by
 have hl:=block_lt hB;have hne:B≠w.heap.size:=by have:B<w.heap.size:=hl;omega
 have u1:(x.nm.toList==s.toList)=gP x.nm s:=Cn _ _;obtain⟨r,hr⟩:∃r,gP x.nm s=r:=⟨_,rfl⟩
 rw[hr] at u1 ⊢;clear hr;cases r
 · go_enter func263,ntmps263;exact dS
 · go_enter func263,ntmps263;exact dS
theorem ahV (x:fD) (P:qC) (s:ByteArray) (B:Nat) (w:ai) (hB:w.cell? ⟨B,0,af⟩=ag (.string s)):ah ae 223 #[.agg (kr x P),.pointer (ag ⟨B,0,af⟩)] w (Gives (.bool (gP x.nm s)) w):=by
 have hl:=block_lt hB;have hne:B≠w.heap.size:=by have:B<w.heap.size:=hl;omega
 have u1:(x.nm.toList==s.toList)=gP x.nm s:=Cn _ _;obtain⟨r,hr⟩:∃r,gP x.nm s=r:=⟨_,rfl⟩
 rw[hr] at u1 ⊢;clear hr;cases r
 · go_enter func223,ntmps223;exact dS
 · go_enter func223,ntmps223;exact dS
theorem ahW (x:cZ) (P:fe) (s:ByteArray) (B:Nat) (w:ai) (hB:w.cell? ⟨B,0,af⟩=ag (.string s)):ah ae 158 #[.agg (cK x P),.pointer (ag ⟨B,0,af⟩)] w (Gives (.bool (gP x.nm s)) w):=by
 have hl:=block_lt hB;have hne:B≠w.heap.size:=by have:B<w.heap.size:=hl;omega
 have u1:(x.nm.toList==s.toList)=gP x.nm s:=Cn _ _;obtain⟨r,hr⟩:∃r,gP x.nm s=r:=⟨_,rfl⟩
 rw[hr] at u1 ⊢;clear hr;cases r
 · go_enter func158,ntmps158;exact dS
 · go_enter func158,ntmps158;exact dS
theorem Fh (c a:Value):((#[]:Array Value).push c++#[a])=#[c,a]:=rfl
theorem ajF {l:List Val} {p:Option Addr} {m c:Nat} {w:ai} (s:ByteArray) (B:Nat) (hl:Rw 3 iI (Lo w.heap.size) w l p m) (hB:w.cell? ⟨B,0,af⟩=ag (.string s)):ah ae 256 #[.slice p m c,.func (.func 257) #[] #[.pointer (ag ⟨B,0,af⟩)]] w (Gives (.int .i64 (fst (l.map (·.nm)) s)) w):=by
 rw[← DT];refine akE (hid hl) #[] #[.pointer (ag ⟨B,0,af⟩)] (fun x=>gP x.nm s) (hid fun x c W hR hW=>?_);rw[Fh];rw[show c=ni x from hR];exact ahY x s B W ((hW.cell (p:=⟨B,0,af⟩) (block_lt hB)).trans hB)
theorem ajB {l:List dx} {p:Option Addr} {m c:Nat} {w:ai} (s:ByteArray) (B:Nat) (hl:Rw 17 je (Lo w.heap.size) w l p m) (hB:w.cell? ⟨B,0,af⟩=ag (.string s)):ah ae 258 #[.slice p m c,.func (.func 259) #[] #[.pointer (ag ⟨B,0,af⟩)]] w (Gives (.int .i64 (fst (l.map (·.nm)) s)) w):=by
 rw[← DT];refine akA (hid hl) #[] #[.pointer (ag ⟨B,0,af⟩)] (fun x=>gP x.nm s) (hid fun x c W hR hW=>?_);rw[Fh];obtain⟨P,rfl,-⟩:=hR;exact ahU x P s B W ((hW.cell (p:=⟨B,0,af⟩) (block_lt hB)).trans hB)
theorem ajE {l:List ko} {p:Option Addr} {m c:Nat} {w:ai} (s:ByteArray) (B:Nat) (hl:Rw 3 kG (Lo w.heap.size) w l p m) (hB:w.cell? ⟨B,0,af⟩=ag (.string s)):ah ae 260 #[.slice p m c,.func (.func 261) #[] #[.pointer (ag ⟨B,0,af⟩)]] w (Gives (.int .i64 (fst (l.map (·.nm)) s)) w):=by
 rw[← DT];refine akD (hid hl) #[] #[.pointer (ag ⟨B,0,af⟩)] (fun x=>gP x.nm s) (hid fun x c W hR hW=>?_);rw[Fh];rw[show c=mq x from hR];exact ahX x s B W ((hW.cell (p:=⟨B,0,af⟩) (block_lt hB)).trans hB)
theorem ajA {l:List j_} {p:Option Addr} {m c:Nat} {w:ai} (s:ByteArray) (B:Nat) (hl:Rw 3 kF (Lo w.heap.size) w l p m) (hB:w.cell? ⟨B,0,af⟩=ag (.string s)):ah ae 262 #[.slice p m c,.func (.func 263) #[] #[.pointer (ag ⟨B,0,af⟩)]] w (Gives (.int .i64 (fst (l.map (·.nm)) s)) w):=by
 rw[← DT];refine akz (hid hl) #[] #[.pointer (ag ⟨B,0,af⟩)] (fun x=>gP x.nm s) (hid fun x c W hR hW=>?_);rw[Fh];rw[show c=mo x from hR];exact ahT x s B W ((hW.cell (p:=⟨B,0,af⟩) (block_lt hB)).trans hB)
theorem ajC {l:List fD} {p:Option Addr} {m c:Nat} {w:ai} (s:ByteArray) (B:Nat) (hl:Rw 4 il (Lo w.heap.size) w l p m) (hB:w.cell? ⟨B,0,af⟩=ag (.string s)):ah ae 222 #[.slice p m c,.func (.func 223) #[] #[.pointer (ag ⟨B,0,af⟩)]] w (Gives (.int .i64 (fst (l.map (·.nm)) s)) w):=by
 rw[← DT];refine akB (hid hl) #[] #[.pointer (ag ⟨B,0,af⟩)] (fun x=>gP x.nm s) (hid fun x c W hR hW=>?_);rw[Fh];obtain⟨P,rfl,-⟩:=hR;exact ahV x P s B W ((hW.cell (p:=⟨B,0,af⟩) (block_lt hB)).trans hB)
theorem ajD {l:List cZ} {p:Option Addr} {m c:Nat} {w:ai} (s:ByteArray) (B:Nat) (hl:Rw 13 g_ (Lo w.heap.size) w l p m) (hB:w.cell? ⟨B,0,af⟩=ag (.string s)):ah ae 157 #[.slice p m c,.func (.func 158) #[] #[.pointer (ag ⟨B,0,af⟩)]] w (Gives (.int .i64 (fst (l.map (·.nm)) s)) w):=by
 rw[← DT];refine akC (hid hl) #[] #[.pointer (ag ⟨B,0,af⟩)] (fun x=>gP x.nm s) (hid fun x c W hR hW=>?_);rw[Fh];obtain⟨P,rfl,-⟩:=hR;exact ahW x P s B W ((hW.cell (p:=⟨B,0,af⟩) (block_lt hB)).trans hB)
theorem NS (x:cZ) (P:fe) (s:ByteArray) (w:ai) (hl:Rw 4 il (Lo w.heap.size) w x.ro P.yt P.tJ):ah ae 193 #[.agg (cK x P),.string s] w (Gives (.int .i64 (wQ x.ro s)) w):=by
 have HL:=hid hl;clear hl;go_enter func193,ntmps193;go_wp2_with fail;refine(ajC (l:=x.ro) s (w.heap.size+1) (HL.out.on il.map bl) (by go_simp)).mono ?_;exact CJ
theorem Oc (x:dM) (P:lN) (s:ByteArray) (w:ai) (hl:Rw 13 g_ (Lo w.heap.size) w x.si P.zM P.yu):ah ae 99 #[.agg (dX x P),.string s] w (Gives (.int .i64 (pR x.si s)) w):=by
 have HL:=hid hl;clear hl;go_enter func99,ntmps99;go_wp2_with fail;refine(ajD (l:=x.si) s (w.heap.size+1) (HL.out.on g_.map bl) (by go_simp)).mono ?_;exact CJ
theorem GH {a b:ByteArray}:(a.toList==b.toList)=decide (a=b):=by
 rw[Cn];unfold gP;by_cases h:a=b
 · rw[decide_eq_true h,decide_eq_true (by rw[h])]
 · rw[decide_eq_false h,decide_eq_false (fun e=>h (kH e))]
end Md
end Go.Proofs.YthnillhnjhalmaaGreatDoor
