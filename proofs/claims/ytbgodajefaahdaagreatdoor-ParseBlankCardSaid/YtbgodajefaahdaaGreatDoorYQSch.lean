/-
  Parts of this proof: The contracts of checkSchedule and checkResource. The contracts of the closures that look for a na.
-/
import Derived.Test.YtbgodajefaahdaaGreatDoorYQSml
import Derived.Test.YtbgodajefaahdaaGreatDoorYEWalk
import Derived.Test.YtbgodajefaahdaaGreatDoorYQEach
import Derived.Test.YtbgodajefaahdaaGreatDoorYQIdx
open Go.Proofs.Tryz renaming prog->ae
open Option renaming none->af,some->ag
open Go renaming Calls->ah,World->ai
set_option linter.unusedVariables false
open Go.Lib (hid)
namespace Go.Proofs.YtbgodajefaahdaaGreatDoor
namespace Md
open Go.RowKit Go.Maps
open Sm (dR uk lJ um CY)
open Ex (Lo Gives take_one oG)
set_option maxHeartbeats 4000000
def GI:Option dQ->List dQ->Option dQ
 | p,[]=>p
 | _,c::t=>GI (ag c) t
theorem adP:∀{p:Option dQ} {a:List dQ} {x:dQ},GI p (a++[x])=ag x
 | p,[],x=>rfl
 | p,c::t,x=>by rw[List.cons_append,GI];exact adP
theorem Z5 {cy:Int}:∀{p:Option dQ} {a:List dQ} {x:dQ},lG cy p (a++[x])=dR (lG cy p a) (tX cy (GI p a) x)
 | p,[],x=>by
  show dR (tX cy p x) (lG cy (ag x) [])=dR 0 (tX cy p x)
  rw[lJ];exact um _
 | p,c::t,x=>by rw[List.cons_append,lG,lG,Z5,CY];rfl
theorem ZY {cy:Int}:∀{p:Option dQ} {a b:List dQ},lG cy p (a++b)=dR (lG cy p a) (lG cy (GI p a) b)
 | p,[],b=>lJ.symm
 | p,c::t,b=>by rw[List.cons_append,lG,lG,ZY,CY];rfl
def Bd (l:List dQ) (k:Nat):Option dQ:=GI af (l.take k)
theorem apI {l:List dQ} {j:Nat} {y:dQ} (h:l[j]?=ag y):Bd l (j+1)=ag y:=by unfold Bd;rw[take_one h,adP]
theorem ZZ {cy:Int} {l:List dQ} {k:Nat} {x:dQ} (hx:l[k]?=ag x) (h:lG cy af (l.take k)=0) (h1:tX cy (Bd l k) x=0):lG cy af (l.take (k+1))=0:=by
 rw[take_one hx,Z5,h,lJ];exact h1
theorem SH {cy:Int} {l:List dQ} {k:Nat} {x:dQ} (hx:l[k]?=ag x) (h:lG cy af (l.take k)=0) (h1:¬tX cy (Bd l k) x=0):lG cy af l=tX cy (Bd l k) x:=by
 obtain⟨hk,e⟩:=List.getElem?_eq_some_iff.1 hx;have h2:=List.take_append_drop k l;rw[List.drop_eq_getElem_cons hk,e] at h2;have h3:=ZY (cy:=cy) (p:=af) (a:=l.take k) (b:=x::l.drop (k+1));rw[h2,h,lJ,lG] at h3;rw[h3];exact uk h1
theorem X6 {p:Prop} (h:p:=by
 go_wp2_with fail;go_ret;exact⟨oG HN.out.symm,by have bU:=HW.out;exact bl⟩
 ):p:=h
theorem X7 {p:Prop} (h:p:=by
 go_enter Tryz.func159,Tryz.ntmps159;go_wp2_with fail;go_ret;exact⟨rfl,bl⟩
 ):p:=h
set_option maxRecDepth 100000 in
theorem aj0 (l:List dQ) (p:Option Addr) (m c:Nat) (cy:Int) (w:ai) (hl:Rw 2 iU (Lo w.heap.size) w l p m):ah ae 159 #[.slice p m c,.int .i64 cy] w (Gives (.int .i64 (uy l cy)) w):=by
 have HH:=hid hl;obtain⟨hlm,hm⟩:=hl.len;have HL:=hid hlm;clear hl;by_cases hm0:m=0
 · subst hm0;by_cases hc:cy=0
   · subst hc;rw[show uy l 0=0 by unfold uy;rw[hlm];rfl];clear hlm hm;exact X7
   · have c1:(cy==0)=false:=beq_eq_false_iff_ne.2 hc;rw[show uy l cy=1 by unfold uy;rw[hlm,if_pos rfl,if_neg hc]];clear hlm hm hc;exact X7
 have e1:((m:Int)==0)=false:=beq_eq_false_iff_ne.2 (by omega);by_cases h20:20<m
 · have e2:decide ((20:Int)<(m:Int))=true:=decide_eq_true (by omega);have e3:(20:Int)<(m:Int):=by omega
   rw[show uy l cy=6 by unfold uy;rw[hlm,if_neg hm0,if_pos h20]];clear hlm hm hm0 h20;exact X7
 have e2:decide ((20:Int)<(m:Int))=false:=decide_eq_false (by omega);have e3:(m:Int)<=20:=by omega
 obtain⟨r,hr⟩:∃r,iX 1 cy 1000000000=r:=⟨_,rfl⟩
 have CB:=hid (fun W=>Eb hr W);have HE:Hid (uy l cy=if r then lG cy af l else 2):=hid (by unfold uy;rw[hlm,if_neg hm0,if_neg h20,hr])
 cases r with
 | false=>
  rw[show uy l cy=2 from HE.out];clear hlm hm hm0 h20 hr;go_enter Tryz.func159,Tryz.ntmps159;go_wp2_with fail;refine(CB.out _).mono ?_;rintro e w2 ⟨rfl,rfl⟩;go_wp2_with fail;go_ret;exact⟨rfl,bl⟩
 | true=>
  rw[show uy l cy=lG cy af l from HE.out];have hcy:1<=cy/\cy<=1000000000:=by
   unfold iX at hr
   simpa using hr
  have cy1:=hcy.1;have cy2:=hcy.2;clear hlm hm hm0 h20 hr hcy;go_enter Tryz.func159,Tryz.ntmps159;go_wp2_with fail;refine(CB.out _).mono ?_;rintro e w2 ⟨rfl,rfl⟩;go_wp2_with fail;go_loopw [29] (fun i wr=>∃k:Nat,k<=m/\i=.int .i64 (k:Nat)/\Hid (Below w.heap.size w wr)/\Hid (lG cy af (l.take k)=0)) (fun i _=>m-(intOf i).toNat)
  case atStart=>exact⟨0,Nat.zero_le _,rfl,hid bl,hid rfl⟩
  case round=>
   obtain⟨k,hk,rfl,HW,HA⟩:=hrel;have k0:(0:Int)<=(k:Int):=by omega
   rcases Nat.lt_or_ge k m with h|h
   · have k1:(k:Int)<(m:Int):=by omega
     have hkl:k<l.length:=by rw[HL.out];exact h
     have hgx:=List.getElem?_eq_getElem hkl;obtain⟨b,o,rfl,gD,hG,hcell⟩:=(HH.out.below iU.map HW.out).rows (by omega);obtain⟨d,hds,hat,hR⟩:=hcell.out k hkl;have Yw:=hcell;obtain⟨x,hx⟩:∃x,l[k]=x:=⟨_,rfl⟩
     rw[hx] at hgx hR;have a0:=hat.get (r:=0) (v:=.int .i64 x.t) (by rw[hR];rfl);have a1:=hat.get (r:=1) (v:=.int .i64 x.u) (by rw[hR];rfl);rw[show o+k*2+0=o+k*2 by omega] at a0;have HX:=hid hgx;have HG:=hid hG;obtain⟨q1,hq1⟩:∃r,iX 0 x.t (cy-1)=r:=⟨_,rfl⟩
     obtain⟨q2,hq2⟩:∃r,JX x.u=r:=⟨_,rfl⟩
     have C1:=hid (fun W=>Eb hq1 W);have C2:=hid (fun W=>(show ah ae 158 #[.int .i64 x.u] W (qA (.bool q2) W) by rw[← hq2];exact acN _ W));have uS:Hid (∀pr,tX cy pr x=if q1&&q2 then (match pr with|none=>0|some d=>if x.t<=d.t then 12 else 0) else 2):=hid (fun pr=>by unfold tX;rw[hq1,hq2];cases pr <;> rfl);clear hcell hds hat hR hgx hx hkl hq1 hq2
     cases q1 with
     | false=>
      have HN:=hid (SH HX.out HA.out (by rw[uS.out];simp));rw[show tX cy (Bd l k) x=2 by rw[uS.out];rfl] at HN;clear uS;go_wp2_with fail;refine(C1.out _).mono ?_;rintro e w3 ⟨rfl,rfl⟩;exact X6
     | true=>
      cases q2 with
      | false=>
       have HN:=hid (SH HX.out HA.out (by rw[uS.out];simp));rw[show tX cy (Bd l k) x=2 by rw[uS.out];rfl] at HN;clear uS;go_wp2_with fail;refine(C1.out _).mono ?_;rintro e w3 ⟨rfl,rfl⟩;go_wp2_with fail;refine(C2.out _).mono ?_;rintro e w3 ⟨rfl,rfl⟩;exact X6
      | true=>
       rcases Nat.eq_zero_or_pos k with hk0|hk0
       · subst hk0;rw[show o+0*2=o by omega] at a0 a1;have HN:=hid (ZZ HX.out HA.out (by rw[uS.out];rfl));clear uS;go_wp2_with fail;refine(C1.out _).mono ?_;rintro e w3 ⟨rfl,rfl⟩;go_wp2_with fail;refine(C2.out _).mono ?_;rintro e w3 ⟨rfl,rfl⟩;go_wp2_with fail
         go_quiet (fail)
         go_wp2_with fail;go_roundw
         case rel=>exact⟨0+1,by omega,by go_num,hid (by have bU:=HW.out;exact bl),HN⟩
         case measure=>simp[intOf];omega
       · obtain⟨j,hj⟩:∃j,k=j+1:=⟨k-1,by omega⟩
         have hjl:j<l.length:=by rw[HL.out];omega
         obtain⟨d,hds,hat,hR⟩:=Yw.out j hjl;have Ct:=List.getElem?_eq_getElem hjl;obtain⟨y,hy⟩:∃y,l[j]=y:=⟨_,rfl⟩
         rw[hy] at Ct hR;have f0:=hat.get (r:=0) (v:=.int .i64 y.t) (by rw[hR];rfl);rw[show o+j*2+0=o+j*2 by omega] at f0;have HP:Hid (Bd l k=ag y):=hid (by rw[hj];exact apI Ct);have HO:Hid (k=j+1):=hid hj;have g1:(k:Int)-1=(j:Int):=by omega
         have g2:(0:Int)<=(j:Int):=by omega
         have g3:(j:Int)<(m:Int):=by omega
         have g4:IntKind.i64.wrap (j:Int)=(j:Int):=by rw[IntKind.wrap_i64];omega
         have g5:decide ((0:Int)<(k:Int))=true:=decide_eq_true (by omega);have g6:decide (0<k)=true:=decide_eq_true hk0;clear hjl hds hat hR Ct hy hj Yw;by_cases hxy:x.t<=y.t
         · have HN:=hid (SH HX.out HA.out (by rw[uS.out,HP.out];simp[hxy]));rw[show tX cy (Bd l k) x=12 by rw[uS.out,HP.out];exact if_pos hxy] at HN;have g7:=decide_eq_true hxy;clear uS HP;go_wp2_with fail;refine(C1.out _).mono ?_;rintro e w3 ⟨rfl,rfl⟩;go_wp2_with fail;refine(C2.out _).mono ?_;rintro e w3 ⟨rfl,rfl⟩;go_wp2_with fail
           go_quiet (fail)
           exact X6
         · have HN:=hid (ZZ HX.out HA.out (by rw[uS.out,HP.out];exact if_neg hxy));have g7:=decide_eq_false hxy;clear uS HP;go_wp2_with fail;refine(C1.out _).mono ?_;rintro e w3 ⟨rfl,rfl⟩;go_wp2_with fail;refine(C2.out _).mono ?_;rintro e w3 ⟨rfl,rfl⟩;go_wp2_with fail
           go_quiet (fail)
           go_wp2_with fail;go_roundw
           case rel=>exact⟨k+1,by omega,by go_num,hid (by have bU:=HW.out;exact bl),HN⟩
           case measure=>simp[intOf];omega
   · obtain rfl:m=k:=by omega
     have HT:=hid (show lG cy af l=0 by have h1:=HA.out;rwa [List.take_of_length_le (by rw[HL.out];exact Nat.le_refl _)] at h1);go_wp2_with fail;go_ret;exact⟨oG HT.out.symm,HW.out⟩
end Md
namespace Md
open Go.RowKit
open Na (jO fst)
open Ex (Lo Gives block_lt)
attribute [local go_sem] ZX Gf NI Nl Ef Gg Gb Gc Cg Ed Ap
set_option maxHeartbeats 2000000
theorem akl (x:Val) (s:ByteArray) (B:Nat) (w:ai) (hB:w.cell? ⟨B,0,af⟩=ag (.string s)):ah ae 216 #[.agg (lZ x),.pointer (ag ⟨B,0,af⟩)] w (Gives (.bool (dF x.nm s)) w):=by
 have hl:=block_lt hB;have hne:B≠w.heap.size:=by have:B<w.heap.size:=hl;omega
 have u1:(x.nm.toList==s.toList)=dF x.nm s:=mo _ _;obtain⟨r,hr⟩:∃r,dF x.nm s=r:=⟨_,rfl⟩
 rw[hr] at u1 ⊢;clear hr;cases r
 · go_enter Tryz.func216,Tryz.ntmps216;go_wp2_with fail;go_ret;exact⟨rfl,bl⟩
 · go_enter Tryz.func216,Tryz.ntmps216;go_wp2_with fail;go_ret;exact⟨rfl,bl⟩
theorem akh (x:dm) (P:eO) (s:ByteArray) (B:Nat) (w:ai) (hB:w.cell? ⟨B,0,af⟩=ag (.string s)):ah ae 218 #[.agg (dI x P),.pointer (ag ⟨B,0,af⟩)] w (Gives (.bool (dF x.nm s)) w):=by
 have hl:=block_lt hB;have hne:B≠w.heap.size:=by have:B<w.heap.size:=hl;omega
 have u1:(x.nm.toList==s.toList)=dF x.nm s:=mo _ _;obtain⟨r,hr⟩:∃r,dF x.nm s=r:=⟨_,rfl⟩
 rw[hr] at u1 ⊢;clear hr;cases r
 · go_enter Tryz.func218,Tryz.ntmps218;go_wp2_with fail;go_ret;exact⟨rfl,bl⟩
 · go_enter Tryz.func218,Tryz.ntmps218;go_wp2_with fail;go_ret;exact⟨rfl,bl⟩
theorem akk (x:iI) (s:ByteArray) (B:Nat) (w:ai) (hB:w.cell? ⟨B,0,af⟩=ag (.string s)):ah ae 220 #[.agg (lD x),.pointer (ag ⟨B,0,af⟩)] w (Gives (.bool (dF x.nm s)) w):=by
 have hl:=block_lt hB;have hne:B≠w.heap.size:=by have:B<w.heap.size:=hl;omega
 have u1:(x.nm.toList==s.toList)=dF x.nm s:=mo _ _;obtain⟨r,hr⟩:∃r,dF x.nm s=r:=⟨_,rfl⟩
 rw[hr] at u1 ⊢;clear hr;cases r
 · go_enter Tryz.func220,Tryz.ntmps220;go_wp2_with fail;go_ret;exact⟨rfl,bl⟩
 · go_enter Tryz.func220,Tryz.ntmps220;go_wp2_with fail;go_ret;exact⟨rfl,bl⟩
theorem akg (x:iF) (s:ByteArray) (B:Nat) (w:ai) (hB:w.cell? ⟨B,0,af⟩=ag (.string s)):ah ae 222 #[.agg (lC x),.pointer (ag ⟨B,0,af⟩)] w (Gives (.bool (dF x.nm s)) w):=by
 have hl:=block_lt hB;have hne:B≠w.heap.size:=by have:B<w.heap.size:=hl;omega
 have u1:(x.nm.toList==s.toList)=dF x.nm s:=mo _ _;obtain⟨r,hr⟩:∃r,dF x.nm s=r:=⟨_,rfl⟩
 rw[hr] at u1 ⊢;clear hr;cases r
 · go_enter Tryz.func222,Tryz.ntmps222;go_wp2_with fail;go_ret;exact⟨rfl,bl⟩
 · go_enter Tryz.func222,Tryz.ntmps222;go_wp2_with fail;go_ret;exact⟨rfl,bl⟩
theorem aki (x:eQ) (P:qV) (s:ByteArray) (B:Nat) (w:ai) (hB:w.cell? ⟨B,0,af⟩=ag (.string s)):ah ae 192 #[.agg (fJ x P),.pointer (ag ⟨B,0,af⟩)] w (Gives (.bool (dF x.nm s)) w):=by
 have hl:=block_lt hB;have hne:B≠w.heap.size:=by have:B<w.heap.size:=hl;omega
 have u1:(x.nm.toList==s.toList)=dF x.nm s:=mo _ _;obtain⟨r,hr⟩:∃r,dF x.nm s=r:=⟨_,rfl⟩
 rw[hr] at u1 ⊢;clear hr;cases r
 · go_enter Tryz.func192,Tryz.ntmps192;go_wp2_with fail;go_ret;exact⟨rfl,bl⟩
 · go_enter Tryz.func192,Tryz.ntmps192;go_wp2_with fail;go_ret;exact⟨rfl,bl⟩
theorem akj (x:b_) (P:fe) (s:ByteArray) (B:Nat) (w:ai) (hB:w.cell? ⟨B,0,af⟩=ag (.string s)):ah ae 127 #[.agg (bX x P),.pointer (ag ⟨B,0,af⟩)] w (Gives (.bool (dF x.nm s)) w):=by
 have hl:=block_lt hB;have hne:B≠w.heap.size:=by have:B<w.heap.size:=hl;omega
 have u1:(x.nm.toList==s.toList)=dF x.nm s:=mo _ _;obtain⟨r,hr⟩:∃r,dF x.nm s=r:=⟨_,rfl⟩
 rw[hr] at u1 ⊢;clear hr;cases r
 · go_enter Tryz.func127,Tryz.ntmps127;go_wp2_with fail;go_ret;exact⟨rfl,bl⟩
 · go_enter Tryz.func127,Tryz.ntmps127;go_wp2_with fail;go_ret;exact⟨rfl,bl⟩
theorem F4 (c a:Value):((#[]:Array Value).push c++#[a])=#[c,a]:=rfl
theorem amd {l:List Val} {p:Option Addr} {m c:Nat} {w:ai} (s:ByteArray) (B:Nat) (hl:Rw 3 fV (Lo w.heap.size) w l p m) (hB:w.cell? ⟨B,0,af⟩=ag (.string s)):ah ae 215 #[.slice p m c,.func (.func 216) #[] #[.pointer (ag ⟨B,0,af⟩)]] w (Gives (.int .i64 (fst (l.map (·.nm)) s)) w):=by
 rw[← EA];refine anh (hid hl) #[] #[.pointer (ag ⟨B,0,af⟩)] (fun x=>dF x.nm s) (hid fun x c W hR hW=>?_);rw[F4];rw[show c=lZ x from hR];exact akl x s B W ((hW.cell (p:=⟨B,0,af⟩) (block_lt hB)).trans hB)
theorem al_ {l:List dm} {p:Option Addr} {m c:Nat} {w:ai} (s:ByteArray) (B:Nat) (hl:Rw 17 iV (Lo w.heap.size) w l p m) (hB:w.cell? ⟨B,0,af⟩=ag (.string s)):ah ae 217 #[.slice p m c,.func (.func 218) #[] #[.pointer (ag ⟨B,0,af⟩)]] w (Gives (.int .i64 (fst (l.map (·.nm)) s)) w):=by
 rw[← EA];refine anc (hid hl) #[] #[.pointer (ag ⟨B,0,af⟩)] (fun x=>dF x.nm s) (hid fun x c W hR hW=>?_);rw[F4];obtain⟨P,rfl,-⟩:=hR;exact akh x P s B W ((hW.cell (p:=⟨B,0,af⟩) (block_lt hB)).trans hB)
theorem amc {l:List iI} {p:Option Addr} {m c:Nat} {w:ai} (s:ByteArray) (B:Nat) (hl:Rw 3 jZ (Lo w.heap.size) w l p m) (hB:w.cell? ⟨B,0,af⟩=ag (.string s)):ah ae 219 #[.slice p m c,.func (.func 220) #[] #[.pointer (ag ⟨B,0,af⟩)]] w (Gives (.int .i64 (fst (l.map (·.nm)) s)) w):=by
 rw[← EA];refine ang (hid hl) #[] #[.pointer (ag ⟨B,0,af⟩)] (fun x=>dF x.nm s) (hid fun x c W hR hW=>?_);rw[F4];rw[show c=lD x from hR];exact akk x s B W ((hW.cell (p:=⟨B,0,af⟩) (block_lt hB)).trans hB)
theorem al9 {l:List iF} {p:Option Addr} {m c:Nat} {w:ai} (s:ByteArray) (B:Nat) (hl:Rw 3 jY (Lo w.heap.size) w l p m) (hB:w.cell? ⟨B,0,af⟩=ag (.string s)):ah ae 221 #[.slice p m c,.func (.func 222) #[] #[.pointer (ag ⟨B,0,af⟩)]] w (Gives (.int .i64 (fst (l.map (·.nm)) s)) w):=by
 rw[← EA];refine anb (hid hl) #[] #[.pointer (ag ⟨B,0,af⟩)] (fun x=>dF x.nm s) (hid fun x c W hR hW=>?_);rw[F4];rw[show c=lC x from hR];exact akg x s B W ((hW.cell (p:=⟨B,0,af⟩) (block_lt hB)).trans hB)
theorem ama {l:List eQ} {p:Option Addr} {m c:Nat} {w:ai} (s:ByteArray) (B:Nat) (hl:Rw 4 gT (Lo w.heap.size) w l p m) (hB:w.cell? ⟨B,0,af⟩=ag (.string s)):ah ae 191 #[.slice p m c,.func (.func 192) #[] #[.pointer (ag ⟨B,0,af⟩)]] w (Gives (.int .i64 (fst (l.map (·.nm)) s)) w):=by
 rw[← EA];refine ane (hid hl) #[] #[.pointer (ag ⟨B,0,af⟩)] (fun x=>dF x.nm s) (hid fun x c W hR hW=>?_);rw[F4];obtain⟨P,rfl,-⟩:=hR;exact aki x P s B W ((hW.cell (p:=⟨B,0,af⟩) (block_lt hB)).trans hB)
theorem amb {l:List b_} {p:Option Addr} {m c:Nat} {w:ai} (s:ByteArray) (B:Nat) (hl:Rw 13 gH (Lo w.heap.size) w l p m) (hB:w.cell? ⟨B,0,af⟩=ag (.string s)):ah ae 126 #[.slice p m c,.func (.func 127) #[] #[.pointer (ag ⟨B,0,af⟩)]] w (Gives (.int .i64 (fst (l.map (·.nm)) s)) w):=by
 rw[← EA];refine anf (hid hl) #[] #[.pointer (ag ⟨B,0,af⟩)] (fun x=>dF x.nm s) (hid fun x c W hR hW=>?_);rw[F4];obtain⟨P,rfl,-⟩:=hR;exact akj x P s B W ((hW.cell (p:=⟨B,0,af⟩) (block_lt hB)).trans hB)
set_option maxRecDepth 100000 in
theorem P5 (x:b_) (P:fe) (s:ByteArray) (w:ai) (hl:Rw 4 gT (Lo w.heap.size) w x.ro P.mi P.ed):ah ae 164 #[.agg (bX x P),.string s] w (Gives (.int .i64 (xA x.ro s)) w):=by
 have HL:=hid hl;clear hl;go_enter Tryz.func164,Tryz.ntmps164;go_wp2_with fail;refine(ama (l:=x.ro) s (w.heap.size+1) (HL.out.on gT.map bl) (by go_simp)).mono ?_;rintro e w2 ⟨rfl,hb2⟩;go_wp2_with fail;go_ret;exact⟨rfl,bl⟩
set_option maxRecDepth 100000 in
theorem Qe (x:dx) (P:kS) (s:ByteArray) (w:ai) (hl:Rw 13 gH (Lo w.heap.size) w x.si P.rH P.ig):ah ae 77 #[.agg (dB x P),.string s] w (Gives (.int .i64 (qI x.si s)) w):=by
 have HL:=hid hl;clear hl;go_enter Tryz.func77,Tryz.ntmps77;go_wp2_with fail;refine(amb (l:=x.si) s (w.heap.size+1) (HL.out.on gH.map bl) (by go_simp)).mono ?_;rintro e w2 ⟨rfl,hb2⟩;go_wp2_with fail;go_ret;exact⟨rfl,bl⟩
theorem Hf {a b:ByteArray}:(a.toList==b.toList)=decide (a=b):=by
 rw[mo];unfold dF;by_cases h:a=b
 · rw[decide_eq_true h,decide_eq_true (by rw[h])]
 · rw[decide_eq_false h,decide_eq_false (fun e=>h (jO e))]
end Md
end Go.Proofs.YtbgodajefaahdaaGreatDoor
