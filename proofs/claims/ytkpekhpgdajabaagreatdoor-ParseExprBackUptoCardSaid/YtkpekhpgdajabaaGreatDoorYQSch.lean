/-
  Parts of this proof: The contracts of checkSchedule and checkResource. The contracts of the closures that look for a na.
-/
import Derived.Test.YtkpekhpgdajabaaGreatDoorYNmCheck
import Derived.Test.YtkpekhpgdajabaaGreatDoorYQEach
import Derived.Test.YtkpekhpgdajabaaGreatDoorYEWalk
open Go.Proofs.Tryz
open Go.Proofs.Tryz renaming prog->ae
open Option renaming none->af,some->ag
open Go renaming Calls->ah,World->ai
set_option linter.unusedVariables false
set_option maxRecDepth 100000
set_option maxHeartbeats 4000000
open Go.Lib (hid)
namespace Go.Proofs.YtkpekhpgdajabaaGreatDoor
namespace Md
open Go.RowKit Go.Maps
open Sm (dN rT kG rU A_)
open Ex (Lo Gives take_one nN)
def ES:Option dQ->List dQ->Option dQ
 | p,[]=>p
 | _,c::t=>ES (ag c) t
theorem aar:∀{p:Option dQ} {a:List dQ} {x:dQ},ES p (a++[x])=ag x
 | p,[],x=>rfl
 | p,c::t,x=>by rw[List.cons_append,ES];exact aar
theorem Ww {cy:Int}:∀{p:Option dQ} {a:List dQ} {x:dQ},lS cy p (a++[x])=dN (lS cy p a) (uC cy (ES p a) x)
 | p,[],x=>by
  show dN (uC cy p x) (lS cy (ag x) [])=dN 0 (uC cy p x)
  rw[kG];exact rU _
 | p,c::t,x=>by rw[List.cons_append,lS,lS,Ww,A_];rfl
theorem Wu {cy:Int}:∀{p:Option dQ} {a b:List dQ},lS cy p (a++b)=dN (lS cy p a) (lS cy (ES p a) b)
 | p,[],b=>kG.symm
 | p,c::t,b=>by rw[List.cons_append,lS,lS,Wu,A_];rfl
def zR (l:List dQ) (k:Nat):Option dQ:=ES af (l.take k)
theorem alo {l:List dQ} {j:Nat} {y:dQ} (h:l[j]?=ag y):zR l (j+1)=ag y:=by unfold zR;rw[take_one h,aar]
theorem Wv {cy:Int} {l:List dQ} {k:Nat} {x:dQ} (hx:l[k]?=ag x) (h:lS cy af (l.take k)=0) (h1:uC cy (zR l k) x=0):lS cy af (l.take (k+1))=0:=by
 rw[take_one hx,Ww,h,kG];exact h1
theorem PI {cy:Int} {l:List dQ} {k:Nat} {x:dQ} (hx:l[k]?=ag x) (h:lS cy af (l.take k)=0) (h1:¬uC cy (zR l k) x=0):lS cy af l=uC cy (zR l k) x:=by
 obtain⟨hk,e⟩:=List.getElem?_eq_some_iff.1 hx;have h2:=List.take_append_drop k l;rw[List.drop_eq_getElem_cons hk,e] at h2;have h3:=Wu (cy:=cy) (p:=af) (a:=l.take k) (b:=x::l.drop (k+1));rw[h2,h,kG,lS] at h3;rw[h3];exact rT h1
theorem Uk {p:Prop} (h:p:=by
 go_wp2_with fail;go_ret;exact⟨nN HN.out.symm,by have bY:=HW.out;exact bl⟩
 ):p:=h
theorem Ul {p:Prop} (h:p:=by
 go_enter func175,ntmps175;exact dX
 ):p:=h
theorem af_ (l:List dQ) (p:Option Addr) (m c:Nat) (cy:Int) (w:ai) (hl:Rw 2 iM (Lo w.heap.size) w l p m):ah ae 175 #[.slice p m c,.int .i64 cy] w (Gives (.int .i64 (tL l cy)) w):=by
 have HH:=hid hl;obtain⟨hlm,hm⟩:=hl.len;have HL:=hid hlm;clear hl;by_cases hm0:m=0
 · subst hm0;by_cases hc:cy=0
   · subst hc;rw[show tL l 0=0 by unfold tL;rw[hlm];rfl];clear hlm hm;exact Ul
   · have c1:(cy==0)=false:=beq_eq_false_iff_ne.2 hc;rw[show tL l cy=1 by unfold tL;rw[hlm,if_pos rfl,if_neg hc]];clear hlm hm hc;exact Ul
 have e1:((m:Int)==0)=false:=beq_eq_false_iff_ne.2 bT;by_cases h20:20<m
 · have e2:decide ((20:Int)<(m:Int))=true:=decide_eq_true bT;have e3:(20:Int)<(m:Int):=by omega
   rw[show tL l cy=6 by unfold tL;rw[hlm,if_neg hm0,if_pos h20]];clear hlm hm hm0 h20;exact Ul
 have e2:decide ((20:Int)<(m:Int))=false:=decide_eq_false bT;have e3:(m:Int)<=20:=by omega
 obtain⟨r,hr⟩:∃r,iy 1 cy 1000000000=r:=⟨_,rfl⟩
 have CB:=hid (fun W=>BZ hr W);have HE:Hid (tL l cy=if r then lS cy af l else 2):=hid (by unfold tL;rw[hlm,if_neg hm0,if_neg h20,hr])
 cases r with
 | false=>
  rw[show tL l cy=2 from HE.out];clear hlm hm hm0 h20 hr;go_enter func175,ntmps175;exact UC
 | true=>
  rw[show tL l cy=lS cy af l from HE.out];have hcy:1<=cy/\cy<=1000000000:=by
   unfold iy at hr
   simpa using hr
  have cy1:=hcy.1;have cy2:=hcy.2;clear hlm hm hm0 h20 hr hcy;go_enter func175,ntmps175;go_wp2_with fail;refine(CB.out _).mono ?_;rintro e w2 ⟨rfl,rfl⟩;go_wp2_with fail;go_loopw [29] (fun i wr=>∃k:Nat,k<=m/\i=.int .i64 (k:Nat)/\Hid (Below w.heap.size w wr)/\Hid (lS cy af (l.take k)=0)) (fun i _=>m-(intOf i).toNat)
  case atStart=>exact⟨0,Nat.zero_le _,rfl,hid bl,hid rfl⟩
  case round=>
   obtain⟨k,hk,rfl,HW,HA⟩:=hrel;have k0:(0:Int)<=(k:Int):=by omega
   rcases Nat.lt_or_ge k m with h|h
   · have k1:(k:Int)<(m:Int):=by omega
     have hkl:k<l.length:=by rw[HL.out];exact h
     have hgx:=List.getElem?_eq_getElem hkl;obtain⟨b,o,rfl,lT,hG,hcell⟩:=(HH.out.below iM.map HW.out).rows bT;obtain⟨d,hds,hat,hR⟩:=hcell.out k hkl;have U1:=hcell;obtain⟨x,hx⟩:∃x,l[k]=x:=⟨_,rfl⟩
     rw[hx] at hgx hR;have a0:=hat.get (r:=0) (v:=.int .i64 x.t) (by rw[hR];rfl);have a1:=hat.get (r:=1) (v:=.int .i64 x.u) (by rw[hR];rfl);rw[show o+k*2+0=o+k*2 by omega] at a0;have HX:=hid hgx;have HG:=hid hG;obtain⟨q1,hq1⟩:∃r,iy 0 x.t (cy-1)=r:=⟨_,rfl⟩
     obtain⟨q2,hq2⟩:∃r,Hy x.u=r:=⟨_,rfl⟩
     have C1:=hid (fun W=>BZ hq1 W);have C2:=hid (fun W=>(show ah ae 174 #[.int .i64 x.u] W (oI (.bool q2) W) by rw[← hq2];exact ZE _ W));have sD:Hid (∀pr,uC cy pr x=if q1&&q2 then (match pr with|none=>0|some d=>if x.t<=d.t then 12 else 0) else 2):=hid (fun pr=>by unfold uC;rw[hq1,hq2];cases pr <;> rfl);clear hcell hds hat hR hgx hx hkl hq1 hq2
     cases q1 with
     | false=>
      have HN:=hid (PI HX.out HA.out (by rw[sD.out];simp));rw[show uC cy (zR l k) x=2 by rw[sD.out];rfl] at HN;clear sD;go_wp2_with fail;refine(C1.out _).mono ?_;rintro e w3 ⟨rfl,rfl⟩;exact Uk
     | true=>
      cases q2 with
      | false=>
       have HN:=hid (PI HX.out HA.out (by rw[sD.out];simp));rw[show uC cy (zR l k) x=2 by rw[sD.out];rfl] at HN;clear sD;go_wp2_with fail;refine(C1.out _).mono ?_;rintro e w3 ⟨rfl,rfl⟩;go_wp2_with fail;refine(C2.out _).mono ?_;rintro e w3 ⟨rfl,rfl⟩;exact Uk
      | true=>
       rcases Nat.eq_zero_or_pos k with hk0|hk0
       · subst hk0;rw[show o+0*2=o by omega] at a0 a1;have HN:=hid (Wv HX.out HA.out (by rw[sD.out];rfl));clear sD;go_wp2_with fail;refine(C1.out _).mono ?_;rintro e w3 ⟨rfl,rfl⟩;go_wp2_with fail;refine(C2.out _).mono ?_;rintro e w3 ⟨rfl,rfl⟩;go_wp2_with fail
         go_quiet (fail)
         go_wp2_with fail;go_roundw
         case rel=>exact⟨0+1,by omega,by go_num,hid qG,HN⟩
         case measure=>simp[intOf];omega
       · obtain⟨j,hj⟩:∃j,k=j+1:=⟨k-1,by omega⟩
         have hjl:j<l.length:=by rw[HL.out];omega
         obtain⟨d,hds,hat,hR⟩:=U1.out j hjl;have AQ:=List.getElem?_eq_getElem hjl;obtain⟨y,hy⟩:∃y,l[j]=y:=⟨_,rfl⟩
         rw[hy] at AQ hR;have f0:=hat.get (r:=0) (v:=.int .i64 y.t) (by rw[hR];rfl);rw[show o+j*2+0=o+j*2 by omega] at f0;have HP:Hid (zR l k=ag y):=hid (by rw[hj];exact alo AQ);have HO:Hid (k=j+1):=hid hj;have g1:(k:Int)-1=(j:Int):=by omega
         have g2:(0:Int)<=(j:Int):=by omega
         have g3:(j:Int)<(m:Int):=by omega
         have g4:IntKind.i64.wrap (j:Int)=(j:Int):=by rw[IntKind.wrap_i64];omega
         have g5:decide ((0:Int)<(k:Int))=true:=decide_eq_true bT;have g6:decide (0<k)=true:=decide_eq_true hk0;clear hjl hds hat hR AQ hy hj U1;by_cases hxy:x.t<=y.t
         · have HN:=hid (PI HX.out HA.out (by rw[sD.out,HP.out];simp[hxy]));rw[show uC cy (zR l k) x=12 by rw[sD.out,HP.out];exact if_pos hxy] at HN;have g7:=decide_eq_true hxy;clear sD HP;go_wp2_with fail;refine(C1.out _).mono ?_;rintro e w3 ⟨rfl,rfl⟩;go_wp2_with fail;refine(C2.out _).mono ?_;rintro e w3 ⟨rfl,rfl⟩;go_wp2_with fail
           go_quiet (fail)
           exact Uk
         · have HN:=hid (Wv HX.out HA.out (by rw[sD.out,HP.out];exact if_neg hxy));have g7:=decide_eq_false hxy;clear sD HP;go_wp2_with fail;refine(C1.out _).mono ?_;rintro e w3 ⟨rfl,rfl⟩;go_wp2_with fail;refine(C2.out _).mono ?_;rintro e w3 ⟨rfl,rfl⟩;go_wp2_with fail
           go_quiet (fail)
           exact zzt
   · obtain rfl:m=k:=by omega
     have HT:=hid (show lS cy af l=0 by have h1:=HA.out;rwa [List.take_of_length_le x_] at h1);go_wp2_with fail;go_ret;exact⟨nN HT.out.symm,HW.out⟩
end Md
namespace Md
open Go.RowKit
open Na (jl fst)
open Ex (Lo Gives block_lt)
attribute [local go_sem] Wt Po Kh J_ Kc Pq Pj Pk Pm VJ Kg
theorem agx (x:Val) (s:ByteArray) (B:Nat) (w:ai) (hB:w.cell? ⟨B,0,af⟩=ag (.string s)):ah ae 230 #[.agg (mQ x),.pointer (ag ⟨B,0,af⟩)] w (Gives (.bool (gD x.nm s)) w):=by
 have hl:=block_lt hB;have hne:B≠w.heap.size:=by have:B<w.heap.size:=hl;omega
 have u1:(x.nm.toList==s.toList)=gD x.nm s:=Bu _ _;obtain⟨r,hr⟩:∃r,gD x.nm s=r:=⟨_,rfl⟩
 rw[hr] at u1 ⊢;clear hr;cases r
 · go_enter func230,ntmps230;exact dX
 · go_enter func230,ntmps230;exact dX
theorem agt (x:dm) (P:ed) (s:ByteArray) (B:Nat) (w:ai) (hB:w.cell? ⟨B,0,af⟩=ag (.string s)):ah ae 232 #[.agg (dV x P),.pointer (ag ⟨B,0,af⟩)] w (Gives (.bool (gD x.nm s)) w):=by
 have hl:=block_lt hB;have hne:B≠w.heap.size:=by have:B<w.heap.size:=hl;omega
 have u1:(x.nm.toList==s.toList)=gD x.nm s:=Bu _ _;obtain⟨r,hr⟩:∃r,gD x.nm s=r:=⟨_,rfl⟩
 rw[hr] at u1 ⊢;clear hr;cases r
 · go_enter func232,ntmps232;exact dX
 · go_enter func232,ntmps232;exact dX
theorem agw (x:jP) (s:ByteArray) (B:Nat) (w:ai) (hB:w.cell? ⟨B,0,af⟩=ag (.string s)):ah ae 234 #[.agg (lQ x),.pointer (ag ⟨B,0,af⟩)] w (Gives (.bool (gD x.nm s)) w):=by
 have hl:=block_lt hB;have hne:B≠w.heap.size:=by have:B<w.heap.size:=hl;omega
 have u1:(x.nm.toList==s.toList)=gD x.nm s:=Bu _ _;obtain⟨r,hr⟩:∃r,gD x.nm s=r:=⟨_,rfl⟩
 rw[hr] at u1 ⊢;clear hr;cases r
 · go_enter func234,ntmps234;exact dX
 · go_enter func234,ntmps234;exact dX
theorem ags (x:jO) (s:ByteArray) (B:Nat) (w:ai) (hB:w.cell? ⟨B,0,af⟩=ag (.string s)):ah ae 236 #[.agg (lN x),.pointer (ag ⟨B,0,af⟩)] w (Gives (.bool (gD x.nm s)) w):=by
 have hl:=block_lt hB;have hne:B≠w.heap.size:=by have:B<w.heap.size:=hl;omega
 have u1:(x.nm.toList==s.toList)=gD x.nm s:=Bu _ _;obtain⟨r,hr⟩:∃r,gD x.nm s=r:=⟨_,rfl⟩
 rw[hr] at u1 ⊢;clear hr;cases r
 · go_enter func236,ntmps236;exact dX
 · go_enter func236,ntmps236;exact dX
theorem agu (x:fo) (P:p_) (s:ByteArray) (B:Nat) (w:ai) (hB:w.cell? ⟨B,0,af⟩=ag (.string s)):ah ae 206 #[.agg (jQ x P),.pointer (ag ⟨B,0,af⟩)] w (Gives (.bool (gD x.nm s)) w):=by
 have hl:=block_lt hB;have hne:B≠w.heap.size:=by have:B<w.heap.size:=hl;omega
 have u1:(x.nm.toList==s.toList)=gD x.nm s:=Bu _ _;obtain⟨r,hr⟩:∃r,gD x.nm s=r:=⟨_,rfl⟩
 rw[hr] at u1 ⊢;clear hr;cases r
 · go_enter func206,ntmps206;exact dX
 · go_enter func206,ntmps206;exact dX
theorem agv (x:cz) (P:eP) (s:ByteArray) (B:Nat) (w:ai) (hB:w.cell? ⟨B,0,af⟩=ag (.string s)):ah ae 149 #[.agg (b_ x P),.pointer (ag ⟨B,0,af⟩)] w (Gives (.bool (gD x.nm s)) w):=by
 have hl:=block_lt hB;have hne:B≠w.heap.size:=by have:B<w.heap.size:=hl;omega
 have u1:(x.nm.toList==s.toList)=gD x.nm s:=Bu _ _;obtain⟨r,hr⟩:∃r,gD x.nm s=r:=⟨_,rfl⟩
 rw[hr] at u1 ⊢;clear hr;cases r
 · go_enter func149,ntmps149;exact dX
 · go_enter func149,ntmps149;exact dX
theorem Ej (c a:Value):((#[]:Array Value).push c++#[a])=#[c,a]:=rfl
theorem aib {l:List Val} {p:Option Addr} {m c:Nat} {w:ai} (s:ByteArray) (B:Nat) (hl:Rw 3 ik (Lo w.heap.size) w l p m) (hB:w.cell? ⟨B,0,af⟩=ag (.string s)):ah ae 229 #[.slice p m c,.func (.func 230) #[] #[.pointer (ag ⟨B,0,af⟩)]] w (Gives (.int .i64 (fst (l.map (·.nm)) s)) w):=by
 rw[← Cv];refine ajf (hid hl) #[] #[.pointer (ag ⟨B,0,af⟩)] (fun x=>gD x.nm s) (hid fun x c W hR hW=>?_);rw[Ej];rw[show c=mQ x from hR];exact agx x s B W ((hW.cell (p:=⟨B,0,af⟩) (block_lt hB)).trans hB)
theorem ah8 {l:List dm} {p:Option Addr} {m c:Nat} {w:ai} (s:ByteArray) (B:Nat) (hl:Rw 17 iO (Lo w.heap.size) w l p m) (hB:w.cell? ⟨B,0,af⟩=ag (.string s)):ah ae 231 #[.slice p m c,.func (.func 232) #[] #[.pointer (ag ⟨B,0,af⟩)]] w (Gives (.int .i64 (fst (l.map (·.nm)) s)) w):=by
 rw[← Cv];refine ajb (hid hl) #[] #[.pointer (ag ⟨B,0,af⟩)] (fun x=>gD x.nm s) (hid fun x c W hR hW=>?_);rw[Ej];obtain⟨P,rfl,-⟩:=hR;exact agt x P s B W ((hW.cell (p:=⟨B,0,af⟩) (block_lt hB)).trans hB)
theorem aia {l:List jP} {p:Option Addr} {m c:Nat} {w:ai} (s:ByteArray) (B:Nat) (hl:Rw 3 jY (Lo w.heap.size) w l p m) (hB:w.cell? ⟨B,0,af⟩=ag (.string s)):ah ae 233 #[.slice p m c,.func (.func 234) #[] #[.pointer (ag ⟨B,0,af⟩)]] w (Gives (.int .i64 (fst (l.map (·.nm)) s)) w):=by
 rw[← Cv];refine aje (hid hl) #[] #[.pointer (ag ⟨B,0,af⟩)] (fun x=>gD x.nm s) (hid fun x c W hR hW=>?_);rw[Ej];rw[show c=lQ x from hR];exact agw x s B W ((hW.cell (p:=⟨B,0,af⟩) (block_lt hB)).trans hB)
theorem ah7 {l:List jO} {p:Option Addr} {m c:Nat} {w:ai} (s:ByteArray) (B:Nat) (hl:Rw 3 jX (Lo w.heap.size) w l p m) (hB:w.cell? ⟨B,0,af⟩=ag (.string s)):ah ae 235 #[.slice p m c,.func (.func 236) #[] #[.pointer (ag ⟨B,0,af⟩)]] w (Gives (.int .i64 (fst (l.map (·.nm)) s)) w):=by
 rw[← Cv];refine aja (hid hl) #[] #[.pointer (ag ⟨B,0,af⟩)] (fun x=>gD x.nm s) (hid fun x c W hR hW=>?_);rw[Ej];rw[show c=lN x from hR];exact ags x s B W ((hW.cell (p:=⟨B,0,af⟩) (block_lt hB)).trans hB)
theorem ah9 {l:List fo} {p:Option Addr} {m c:Nat} {w:ai} (s:ByteArray) (B:Nat) (hl:Rw 4 gU (Lo w.heap.size) w l p m) (hB:w.cell? ⟨B,0,af⟩=ag (.string s)):ah ae 205 #[.slice p m c,.func (.func 206) #[] #[.pointer (ag ⟨B,0,af⟩)]] w (Gives (.int .i64 (fst (l.map (·.nm)) s)) w):=by
 rw[← Cv];refine ajc (hid hl) #[] #[.pointer (ag ⟨B,0,af⟩)] (fun x=>gD x.nm s) (hid fun x c W hR hW=>?_);rw[Ej];obtain⟨P,rfl,-⟩:=hR;exact agu x P s B W ((hW.cell (p:=⟨B,0,af⟩) (block_lt hB)).trans hB)
theorem ah_ {l:List cz} {p:Option Addr} {m c:Nat} {w:ai} (s:ByteArray) (B:Nat) (hl:Rw 13 gK (Lo w.heap.size) w l p m) (hB:w.cell? ⟨B,0,af⟩=ag (.string s)):ah ae 148 #[.slice p m c,.func (.func 149) #[] #[.pointer (ag ⟨B,0,af⟩)]] w (Gives (.int .i64 (fst (l.map (·.nm)) s)) w):=by
 rw[← Cv];refine ajd (hid hl) #[] #[.pointer (ag ⟨B,0,af⟩)] (fun x=>gD x.nm s) (hid fun x c W hR hW=>?_);rw[Ej];obtain⟨P,rfl,-⟩:=hR;exact agv x P s B W ((hW.cell (p:=⟨B,0,af⟩) (block_lt hB)).trans hB)
theorem Mx (x:cz) (P:eP) (s:ByteArray) (w:ai) (hl:Rw 4 gU (Lo w.heap.size) w x.ro P.xB P.rV):ah ae 180 #[.agg (b_ x P),.string s] w (Gives (.int .i64 (vH x.ro s)) w):=by
 have HL:=hid hl;clear hl;go_enter func180,ntmps180;go_wp2_with fail;refine(ah9 (l:=x.ro) s (w.heap.size+1) (HL.out.on gU.map bl) (by go_simp)).mono ?_;exact D8
theorem ML (x:dL) (P:k_) (s:ByteArray) (w:ai) (hl:Rw 13 gK (Lo w.heap.size) w x.si P.yR P.xE):ah ae 97 #[.agg (dS x P),.string s] w (Gives (.int .i64 (pz x.si s)) w):=by
 have HL:=hid hl;clear hl;go_enter func97,ntmps97;go_wp2_with fail;refine(ah_ (l:=x.si) s (w.heap.size+1) (HL.out.on gK.map bl) (by go_simp)).mono ?_;exact D8
theorem Fz {a b:ByteArray}:(a.toList==b.toList)=decide (a=b):=by
 rw[Bu];unfold gD;by_cases h:a=b
 · rw[decide_eq_true h,decide_eq_true (by rw[h])]
 · rw[decide_eq_false h,decide_eq_false (fun e=>h (jl e))]
end Md
end Go.Proofs.YtkpekhpgdajabaaGreatDoor
