/-
  Parts of this proof: How much is read of models. The contract of the reader's declaration.
-/
import Derived.Test.YtkpekhpgdajabaaGreatDoorYQSic
import Derived.Test.YtkpekhpgdajabaaGreatDoorYQPlc
open Go.World renaming cell?->ae
open Nat renaming le_trans->af
open Option renaming none->X,some->ak
open Go renaming bodyPost_ret->ag,Value->ah,World->aj
open And renaming intro->ai
open Go.Lib renaming hid->au
set_option linter.unusedVariables false
set_option maxHeartbeats 16000000
open Go.Lib (hid)
namespace Go.Proofs.YtkpekhpgdajabaaGreatDoor
namespace Ps
open Ps.P (rt fl bd acc see len)
open Lx (Tk)
open Md (Val dm jP jO eO fo iP Lw iH cz dL Ay JP OB Fit names)
structure QL {α:Type} (P:α->Nat->Prop) (l:List α) (d:Nat):Prop where
 all:∀y∈l,P y d
 len:l.length<=d
theorem QL.nil {α:Type} {P:α->Nat->Prop} {d:Nat}:QL P [] d:=⟨fun y hy=>(by cases hy),Nat.zero_le _⟩
theorem QL.le {α:Type} {P:α->Nat->Prop} (hm:∀x a b,P x a->a<=b->P x b) {l:List α} {d c:Nat} (h:QL P l d) (hd:d<=c):QL P l c:=⟨fun y hy=>hm _ _ _ (h.all y hy) hd,af h.len hd⟩
theorem jA {p:Prop} (h:p:=by omega):p:=h
theorem QL.snoc {α:Type} {P:α->Nat->Prop} (hm:∀x a b,P x a->a<=b->P x b) {l:List α} {y:α} {d c k:Nat} (h:QL P l d) (hy:P y c) (hk:d+(1+c)<=k):QL P (l++[y]) k:=by
 refine⟨fun z hz=>?_,by have:=h.len;simp;omega⟩;rcases List.mem_append.1 hz with hz|hz
 · exact hm _ _ _ (h.all z hz) jA
 · rw[List.mem_singleton] at hz;subst hz;exact hm _ _ _ hy jA
def sT (s:ByteArray) (d:Nat):Prop:=s.size<=20000
def Sv (x:Val) (d:Nat):Prop:=x.nm.size<=20000
def abo (x:dm) (d:Nat):Prop:=x.nm.size<=20000
def abv (x:jP) (d:Nat):Prop:=x.nm.size<=20000
def abj (x:jO) (d:Nat):Prop:=x.nm.size<=20000
def abr (x:iP) (d:Nat):Prop:=True
def sLw (x:Md.Lw) (d:Nat):Prop:=x.nm.size<=20000
def abl (x:iH) (d:Nat):Prop:=x.fr.size<=20000/\x.tt.size<=20000
def ads (x:eO) (d:Nat):Prop:=1<=d/\x.nm.size<=20000
structure zY (x:fo) (d:Nat):Prop where
 nm:x.nm.size<=20000
 fl:∀f∈x.ps++x.ls,f.nm.size<=20000
 ln:(x.ps++x.ls).length<=d
 bo:nA x.bo d
theorem zY.le (x:fo) (a b:Nat) (h:zY x a) (hb:a<=b):zY x b:=⟨h.nm,h.fl,af h.ln hb,h.bo.le hb⟩
structure jT (x:cz) (d:Nat):Prop where
 nm:x.nm.size<=20000
 va:QL Sv x.va d
 rs:QL abo x.rs d
 st:QL abv x.st d
 be:QL abj x.be d
 qu:QL sT x.qu d
 sm:QL sT x.sm d
 ta:QL sT x.ta d
 le:QL sT x.le d
 co:QL sT x.co d
 ro:QL zY x.ro d
 ss:QL abr x.ss d
 la:QL sLw x.la d
theorem jT.up (x:cz) (a b:Nat) (h:jT x a) (hb:a<=b):jT x b:=⟨h.nm,h.va.le (fun _ _ _ h _=>h) hb,h.rs.le (fun _ _ _ h _=>h) hb,h.st.le (fun _ _ _ h _=>h) hb,h.be.le (fun _ _ _ h _=>h) hb,h.qu.le (fun _ _ _ h _=>h) hb,h.sm.le (fun _ _ _ h _=>h) hb,h.ta.le (fun _ _ _ h _=>h) hb,h.le.le (fun _ _ _ h _=>h) hb,h.co.le (fun _ _ _ h _=>h) hb,h.ro.le zY.le hb,h.ss.le (fun _ _ _ h _=>h) hb,h.la.le (fun _ _ _ h _=>h) hb⟩
structure pg (x:dL) (d:Nat):Prop where
 nm:x.nm.size<=20000
 pa:QL Sv x.pa d
 si:QL jT x.si d
 li:QL abl x.li d
theorem pg.up (x:dL) (a b:Nat) (h:pg x a) (hb:a<=b):pg x b:=⟨h.nm,h.pa.le (fun _ _ _ h _=>h) hb,h.si.le jT.up hb,h.li.le (fun _ _ _ h _=>h) hb⟩
theorem Ci {α:Type} {n:Nat} {m:P α} (h:Dn n m):cO (fun _ d=>n<=d) m:=⟨fun {t u x} g e=>by have h1:=h.out g e;exact⟨h1.1,t.length-u.length,by omega,by omega⟩⟩
theorem XR:cO (fun _ d=>1<=d) typ:=Ci Qd
theorem Cj:cO sT xc:=.bd ll fun s a ha=>.bd qM fun _ b hb=>.rt ha.2
theorem XT:cO Sv val:=.bd ll fun s a ha=>.bd XR fun y b hb=>.bd (kR bR) fun _ c hc=>.bd (Q':=fun _ _=>True) (.iff (Qk.imp fun _ _ _=>trivial) (Xz.imp fun _ _ _=>trivial)) fun n d hn=>.bd qM fun _ k hk=>.rt ha.2
theorem Xy:cO ads Cq:=.bd ll fun s a ha=>.bd XR fun y b hb=>.rt ⟨by omega,ha.2⟩
theorem ahO:cO abo qx:=.bd ll fun s a ha=>.bd og fun n b hb=>.bd (Ci Xe) fun h c hc=>.bd (Ci WX) fun f d hd=>.bd qM fun _ k hk=>.rt ha.2
theorem ahR:cO abv MR:=.bd ll fun s a ha=>.bd og fun n b hb=>.bd (Ci Xa) fun p c hc=>.bd qM fun _ k hk=>.rt ha.2
theorem ahF:cO abj blt:=.bd ll fun s a ha=>.bd og fun n b hb=>.bd og fun p c hc=>.bd qM fun _ k hk=>.rt ha.2
theorem XA:∀n l k,(∀f∈l,f.nm.size<=20000)->l.length<=k->cO (fun x d=>(∀f∈x,f.nm.size<=20000)/\x.length<=k+d) (Cz n l)
 | 0,_,_,_,_=>.fl
 | n+1,l,k,h,hk=>.acc bR (.bd Xy fun x a ha=>.bd qM fun _ b hb=>(XA n (l++[x]) (k+a) (fun f hf=>by
  rcases List.mem_append.1 hf with hf|hf
  · exact h f hf
  · rw[List.mem_singleton] at hf;subst hf;exact ha.2) (by have:=ha.1;simp;omega)).imp fun y c hy=>⟨hy.1,by omega⟩) (.rt ⟨h,by omega⟩)
theorem ahN:cO zY Mw:=.bd ll fun s a ha=>.bd (XB (Q:=ads) (fun x a b h hb=>⟨af h.1 hb,h.2⟩) (fun x d h=>h.1) Xy) fun ps b hb=>.bd qM fun _ c hc=>.bd (XA FU [] 0 (fun f hf=>by cases hf) (Nat.le_refl _)) fun ls d hd=>.bd XP fun bo e he=>.bd (kR bR) fun _ k hk=>.bd qM fun _ j hj=>
 .rt ⟨ha.2,fun f hf=>by
  rcases List.mem_append.1 hf with hf|hf
  · exact(hb.1 f hf).2
  · exact hd.1 f hf,by have h1:=hb.2;have h2:=hd.2;show(ps++ls).length<=_;rw[List.length_append];omega,he.le jA⟩
theorem ahQ:cO abr MQ:=(Ci Xh).imp fun _ _ _=>trivial
theorem ahK:cO sLw law:=.bd ll fun s a ha=>.bd (kR bR) fun _ b hb=>.bd (Q':=fun _ _=>True) (.see (.rt trivial) (.bd (Ci GR) fun x c hc=>.rt trivial)) fun l c hc=>.bd (Ci (Qa FU l)) fun ts d hd=>.bd Xz fun n e he=>.bd qM fun _ k hk=>.rt ha.2
theorem ahL:cO abl Ru:=.bd ll fun s a ha=>.bd ll fun f b hb=>.bd og fun n c hc=>.bd qM fun _ k hk=>.rt ⟨ha.2,hb.2⟩
theorem Xw {x:cz} {d:Nat} (h:jT x d):cO (fun y c=>jT y (d+c)) (Ch x):=by
 have U:∀c,jT x (d+c):=fun c=>jT.up _ _ _ h jA;have m1:∀{α:Type} {P:α->Prop} (x:α) (a b:Nat),P x->a<=b->P x:=fun x a b h _=>h;exact
 .acc bR (.bd XT fun y c hy=>.rt { U (1+(c+0)) with va:=h.va.snoc (fun _ _ _ h _=>h) hy jA }) <|
 .acc bR (.bd ahO fun y c hy=>.rt { U (1+(c+0)) with rs:=h.rs.snoc (fun _ _ _ h _=>h) hy jA }) <|
 .acc bR (.bd ahR fun y c hy=>.rt { U (1+(c+0)) with st:=h.st.snoc (fun _ _ _ h _=>h) hy jA }) <|
 .acc bR (.bd ahF fun y c hy=>.rt { U (1+(c+0)) with be:=h.be.snoc (fun _ _ _ h _=>h) hy jA }) <|
 .acc bR (.bd Cj fun y c hy=>.rt { U (1+(c+0)) with qu:=h.qu.snoc (fun _ _ _ h _=>h) hy jA }) <|
 .acc bR (.bd Cj fun y c hy=>.rt { U (1+(c+0)) with sm:=h.sm.snoc (fun _ _ _ h _=>h) hy jA }) <|
 .acc bR (.bd Cj fun y c hy=>.rt { U (1+(c+0)) with ta:=h.ta.snoc (fun _ _ _ h _=>h) hy jA }) <|
 .acc bR (.bd Cj fun y c hy=>.rt { U (1+(c+0)) with le:=h.le.snoc (fun _ _ _ h _=>h) hy jA }) <|
 .acc bR (.bd Cj fun y c hy=>.rt { U (1+(c+0)) with co:=h.co.snoc (fun _ _ _ h _=>h) hy jA }) <|
 .acc bR (.bd ahN fun y c hy=>.rt { U (1+(c+0)) with ro:=h.ro.snoc zY.le hy jA }) <|
 .acc bR (.bd ahQ fun y c hy=>.rt { U (1+(c+0)) with ss:=h.ss.snoc (fun _ _ _ h _=>h) hy jA }) <|
 .acc bR (.bd ahK fun y c hy=>.rt { U (1+(c+0)) with la:=h.la.snoc (fun _ _ _ h _=>h) hy jA }) <|
 .fl
theorem abL {s:ByteArray} {d:Nat} (h:s.size<=20000):jT (Bj s) d:=⟨h,.nil,.nil,.nil,.nil,.nil,.nil,.nil,.nil,.nil,.nil,.nil,.nil⟩
theorem XM:∀n x k,jT x k->cO (fun y d=>jT y (k+d)) (yQ n x)
 | 0,_,_,_=>.fl
 | n+1,x,k,h=>.acc bR (.rt (jT.up _ _ _ h jA)) (.bd (Xw h) fun y c hy=>(XM n y (k+c) hy).imp fun z d hz=>jT.up _ _ _ hz jA)
theorem ahP:cO jT sit:=.bd Cj fun s a ha=>.bd (XM FU (Bj s) 0 (abL ha)) fun x b hb=>.bd qM fun _ c hc=>.rt (jT.up _ _ _ hb jA)
theorem XL {x:dL} {d:Nat} (h:pg x d):cO (fun y c=>pg y (d+c)) (prt x):=by
 have U:∀c,pg x (d+c):=fun c=>pg.up _ _ _ h jA;exact
 .acc bR (.bd XT fun y c hy=>.rt { U (1+(c+0)) with pa:=h.pa.snoc (fun _ _ _ h _=>h) hy jA }) <|
 .acc bR (.bd ahL fun y c hy=>.rt { U (1+(c+0)) with li:=h.li.snoc (fun _ _ _ h _=>h) hy jA }) <|
 .acc bR (.bd ahP fun y c hy=>.rt { U (1+(c+0)) with si:=h.si.snoc jT.up hy jA }) <|
 .fl
theorem XE:∀n x k,pg x k->cO (fun y d=>pg y (k+d)) (CX n x)
 | 0,_,_,_=>.fl
 | n+1,x,k,h=>.acc bR (.rt (pg.up _ _ _ h jA)) (.bd (XL h) fun y c hy=>(XE n y (k+c) hy).imp fun z d hz=>pg.up _ _ _ hz jA)
theorem zY.z {x:fo} {d:Nat} (h:zY x d) (hd:d<=30000):JP x:=⟨af h.nm bR,fun f hf=>af (h.fl f hf) bR,af h.ln jA,h.bo.Br jA⟩
theorem jT.z {x:cz} {d:Nat} (h:jT x d) (hd:d<=30000):Ay x where
 va:=fun y hy=>af (h.va.all y hy) bR
 rs:=fun y hy=>af (h.rs.all y hy) bR
 st:=fun y hy=>af (h.st.all y hy) bR
 be:=fun y hy=>af (h.be.all y hy) bR
 qu:=fun y hy=>af (h.qu.all y hy) bR
 sm:=fun y hy=>af (h.sm.all y hy) bR
 ta:=fun y hy=>af (h.ta.all y hy) bR
 le:=fun y hy=>af (h.le.all y hy) bR
 co:=fun y hy=>af (h.co.all y hy) bR
 ro:=fun y hy=>(h.ro.all y hy).z hd
 la:=fun y hy=>af (h.la.all y hy) bR
 nm:=af h.nm bR
theorem jT.nw {x:cz} {d:Nat} (h:jT x d) (hd:d<=30000):OB x where
 nz:=⟨by have:=h.va.len;omega,by have:=h.rs.len;omega,by have:=h.st.len;omega,by have:=h.be.len;omega,by have:=h.ro.len;omega⟩
 nm:=fun l hl=>by
  simp only[names,List.mem_cons,List.mem_nil_iff,or_false] at hl;rcases hl with rfl|rfl|rfl|rfl|rfl|rfl|rfl|rfl|rfl|rfl
  · rw[List.length_map];have:=h.va.len;omega
  · rw[List.length_map];have:=h.rs.len;omega
  · rw[List.length_map];have:=h.st.len;omega
  · rw[List.length_map];have:=h.be.len;omega
  · have:=h.qu.len;omega
  · have:=h.sm.len;omega
  · have:=h.ta.len;omega
  · have:=h.le.len;omega
  · have:=h.co.len;omega
  · rw[List.length_map];have:=h.ro.len;omega
 ss:=by have:=h.ss.len;omega
 la:=by have:=h.la.len;omega
theorem pg.fit {x:dL} {d:Nat} (h:pg x d) (hd:d<=30000):Fit x where
 z:=⟨af h.nm bR,fun y hy=>af (h.pa.all y hy) bR,fun y hy=>(h.si.all y hy).z hd,fun l hl=>⟨af (h.li.all l hl).1 bR,af (h.li.all l hl).2 bR⟩⟩
 n:=fun y hy=>(h.si.all y hy).nw hd
 c:=fun y hy r hr=>by have:=(((h.si.all y hy).ro.all r hr).bo).1;omega
theorem ake {t u:List Tk} {x:dL} (g:Gd t) (hl:t.length<=30000) (h:run EX t=.ok x u):Fit x:=by
 unfold EX at h
 cases h1:run (yH Hz) t with
 | no v=>rw[iq h1] at h;cases h
 | ok s t1=>
  obtain⟨g1,d1,e1,q1⟩:=(GY (s:=Hz) bR).out g h1;rw[dK h1] at h
  cases h2:run fV t1 with
  | no v=>rw[iq h2] at h;cases h
  | ok a t2=>
   obtain⟨g2,d2,e2,q2⟩:=qM.out g1 h2;rw[dK h2] at h
   cases h3:run (CX FU ⟨s,[],[],[]⟩) t2 with
   | no v=>rw[iq h3] at h;cases h
   | ok y t3=>
    obtain⟨g3,d3,e3,q3⟩:=(XE FU ⟨s,[],[],[]⟩ 0 ⟨q1.2,.nil,.nil,.nil⟩).out g2 h3;rw[dK h3] at h;have e:x=y:=by
     cases h4:run fV t3 with
     | no v=>rw[iq h4] at h;cases h
     | ok b t4=>
      rw[dK h4] at h
      cases h5:run qN t4 with
      | no v=>rw[iq h5] at h;cases h
      | ok c t5=>rw[dK h5,zW] at h;cases h;rfl
    subst e;exact q3.fit jA
end Ps
namespace Ps
open Ps.P (len)
open Go.RowKit
open Lx (Tk)
open Md
def jJ (F0:(Nat->Prop)->aj->Prop) (x:cz) (V:Nat->ah):Nat->(Nat->Prop)->aj->Prop
 | 0=>F0
 | 1=>fun G w=>bZ 105 3 ik G w (V 1) x.va
 | 2=>fun G w=>bZ 199 17 iO G w (V 2) x.rs
 | 3=>fun G w=>bZ 205 3 jY G w (V 3) x.st
 | 4=>fun G w=>bZ 209 3 jX G w (V 4) x.be
 | 5=>fun G w=>bZ 9 1 dU G w (V 5) x.qu
 | 6=>fun G w=>bZ 9 1 dU G w (V 6) x.sm
 | 7=>fun G w=>bZ 9 1 dU G w (V 7) x.ta
 | 8=>fun G w=>bZ 9 1 dU G w (V 8) x.le
 | 9=>fun G w=>bZ 9 1 dU G w (V 9) x.co
 | 10=>fun G w=>bZ 215 4 gU G w (V 10) x.ro
 | 11=>fun G w=>bZ 219 5 kN G w (V 11) x.ss
 | 12=>fun G w=>bZ 241 3 kL G w (V 12) x.la
 | _+13=>fun _ _=>True
theorem SY {F0:(Nat->Prop)->aj->Prop} (h0:Mv F0) (x:cz) (V:Nat->ah):∀j,Mv (jJ F0 x V j)
 | 0=>h0
 | 1=>ou ik.map
 | 2=>ou iO.map
 | 3=>ou jY.map
 | 4=>ou jX.map
 | 5=>ou dU.map
 | 6=>ou dU.map
 | 7=>ou dU.map
 | 8=>ou dU.map
 | 9=>ou dU.map
 | 10=>ou gU.map
 | 11=>ou kN.map
 | 12=>ou kL.map
 | _+13=>Iy
abbrev pF (F0:(Nat->Prop)->aj->Prop) (lo B:Nat) (x:cz) (V:Nat->ah) (W:aj):Prop:=gJ lo B 54 #[.string x.nm,V 1,V 2,V 3,V 4,V 5,V 6,V 7,V 8,V 9,V 10,V 11,V 12] (jJ F0 x V) W
def iU (i:Nat) (v:ah) (V:Nat->ah):Nat->ah:=fun j=>if j=i then v else V j
theorem anY {F0:(Nat->Prop)->aj->Prop} {x:cz} {V:Nat->ah} {v:ah} {l:List Val}:∀j G W,(if j=1 then fun G w=>bZ 105 3 ik G w v l else jJ F0 x V j) G W->jJ F0 { x with va:=l } (iU 1 v V) j G W
 | 0,_,_,h=>h
 | 1,_,_,h=>h
 | 2,_,_,h=>h
 | 3,_,_,h=>h
 | 4,_,_,h=>h
 | 5,_,_,h=>h
 | 6,_,_,h=>h
 | 7,_,_,h=>h
 | 8,_,_,h=>h
 | 9,_,_,h=>h
 | 10,_,_,h=>h
 | 11,_,_,h=>h
 | 12,_,_,h=>h
 | _+13,_,_,h=>trivial
theorem anT {F0:(Nat->Prop)->aj->Prop} {x:cz} {V:Nat->ah} {v:ah} {l:List dm}:∀j G W,(if j=2 then fun G w=>bZ 199 17 iO G w v l else jJ F0 x V j) G W->jJ F0 { x with rs:=l } (iU 2 v V) j G W
 | 0,_,_,h=>h
 | 1,_,_,h=>h
 | 2,_,_,h=>h
 | 3,_,_,h=>h
 | 4,_,_,h=>h
 | 5,_,_,h=>h
 | 6,_,_,h=>h
 | 7,_,_,h=>h
 | 8,_,_,h=>h
 | 9,_,_,h=>h
 | 10,_,_,h=>h
 | 11,_,_,h=>h
 | 12,_,_,h=>h
 | _+13,_,_,h=>trivial
theorem anW {F0:(Nat->Prop)->aj->Prop} {x:cz} {V:Nat->ah} {v:ah} {l:List jP}:∀j G W,(if j=3 then fun G w=>bZ 205 3 jY G w v l else jJ F0 x V j) G W->jJ F0 { x with st:=l } (iU 3 v V) j G W
 | 0,_,_,h=>h
 | 1,_,_,h=>h
 | 2,_,_,h=>h
 | 3,_,_,h=>h
 | 4,_,_,h=>h
 | 5,_,_,h=>h
 | 6,_,_,h=>h
 | 7,_,_,h=>h
 | 8,_,_,h=>h
 | 9,_,_,h=>h
 | 10,_,_,h=>h
 | 11,_,_,h=>h
 | 12,_,_,h=>h
 | _+13,_,_,h=>trivial
theorem anN {F0:(Nat->Prop)->aj->Prop} {x:cz} {V:Nat->ah} {v:ah} {l:List jO}:∀j G W,(if j=4 then fun G w=>bZ 209 3 jX G w v l else jJ F0 x V j) G W->jJ F0 { x with be:=l } (iU 4 v V) j G W
 | 0,_,_,h=>h
 | 1,_,_,h=>h
 | 2,_,_,h=>h
 | 3,_,_,h=>h
 | 4,_,_,h=>h
 | 5,_,_,h=>h
 | 6,_,_,h=>h
 | 7,_,_,h=>h
 | 8,_,_,h=>h
 | 9,_,_,h=>h
 | 10,_,_,h=>h
 | 11,_,_,h=>h
 | 12,_,_,h=>h
 | _+13,_,_,h=>trivial
theorem anR {F0:(Nat->Prop)->aj->Prop} {x:cz} {V:Nat->ah} {v:ah} {l:List ByteArray}:∀j G W,(if j=5 then fun G w=>bZ 9 1 dU G w v l else jJ F0 x V j) G W->jJ F0 { x with qu:=l } (iU 5 v V) j G W
 | 0,_,_,h=>h
 | 1,_,_,h=>h
 | 2,_,_,h=>h
 | 3,_,_,h=>h
 | 4,_,_,h=>h
 | 5,_,_,h=>h
 | 6,_,_,h=>h
 | 7,_,_,h=>h
 | 8,_,_,h=>h
 | 9,_,_,h=>h
 | 10,_,_,h=>h
 | 11,_,_,h=>h
 | 12,_,_,h=>h
 | _+13,_,_,h=>trivial
theorem anU {F0:(Nat->Prop)->aj->Prop} {x:cz} {V:Nat->ah} {v:ah} {l:List ByteArray}:∀j G W,(if j=6 then fun G w=>bZ 9 1 dU G w v l else jJ F0 x V j) G W->jJ F0 { x with sm:=l } (iU 6 v V) j G W
 | 0,_,_,h=>h
 | 1,_,_,h=>h
 | 2,_,_,h=>h
 | 3,_,_,h=>h
 | 4,_,_,h=>h
 | 5,_,_,h=>h
 | 6,_,_,h=>h
 | 7,_,_,h=>h
 | 8,_,_,h=>h
 | 9,_,_,h=>h
 | 10,_,_,h=>h
 | 11,_,_,h=>h
 | 12,_,_,h=>h
 | _+13,_,_,h=>trivial
theorem anX {F0:(Nat->Prop)->aj->Prop} {x:cz} {V:Nat->ah} {v:ah} {l:List ByteArray}:∀j G W,(if j=7 then fun G w=>bZ 9 1 dU G w v l else jJ F0 x V j) G W->jJ F0 { x with ta:=l } (iU 7 v V) j G W
 | 0,_,_,h=>h
 | 1,_,_,h=>h
 | 2,_,_,h=>h
 | 3,_,_,h=>h
 | 4,_,_,h=>h
 | 5,_,_,h=>h
 | 6,_,_,h=>h
 | 7,_,_,h=>h
 | 8,_,_,h=>h
 | 9,_,_,h=>h
 | 10,_,_,h=>h
 | 11,_,_,h=>h
 | 12,_,_,h=>h
 | _+13,_,_,h=>trivial
theorem anQ {F0:(Nat->Prop)->aj->Prop} {x:cz} {V:Nat->ah} {v:ah} {l:List ByteArray}:∀j G W,(if j=8 then fun G w=>bZ 9 1 dU G w v l else jJ F0 x V j) G W->jJ F0 { x with le:=l } (iU 8 v V) j G W
 | 0,_,_,h=>h
 | 1,_,_,h=>h
 | 2,_,_,h=>h
 | 3,_,_,h=>h
 | 4,_,_,h=>h
 | 5,_,_,h=>h
 | 6,_,_,h=>h
 | 7,_,_,h=>h
 | 8,_,_,h=>h
 | 9,_,_,h=>h
 | 10,_,_,h=>h
 | 11,_,_,h=>h
 | 12,_,_,h=>h
 | _+13,_,_,h=>trivial
theorem anO {F0:(Nat->Prop)->aj->Prop} {x:cz} {V:Nat->ah} {v:ah} {l:List ByteArray}:∀j G W,(if j=9 then fun G w=>bZ 9 1 dU G w v l else jJ F0 x V j) G W->jJ F0 { x with co:=l } (iU 9 v V) j G W
 | 0,_,_,h=>h
 | 1,_,_,h=>h
 | 2,_,_,h=>h
 | 3,_,_,h=>h
 | 4,_,_,h=>h
 | 5,_,_,h=>h
 | 6,_,_,h=>h
 | 7,_,_,h=>h
 | 8,_,_,h=>h
 | 9,_,_,h=>h
 | 10,_,_,h=>h
 | 11,_,_,h=>h
 | 12,_,_,h=>h
 | _+13,_,_,h=>trivial
theorem anS {F0:(Nat->Prop)->aj->Prop} {x:cz} {V:Nat->ah} {v:ah} {l:List fo}:∀j G W,(if j=10 then fun G w=>bZ 215 4 gU G w v l else jJ F0 x V j) G W->jJ F0 { x with ro:=l } (iU 10 v V) j G W
 | 0,_,_,h=>h
 | 1,_,_,h=>h
 | 2,_,_,h=>h
 | 3,_,_,h=>h
 | 4,_,_,h=>h
 | 5,_,_,h=>h
 | 6,_,_,h=>h
 | 7,_,_,h=>h
 | 8,_,_,h=>h
 | 9,_,_,h=>h
 | 10,_,_,h=>h
 | 11,_,_,h=>h
 | 12,_,_,h=>h
 | _+13,_,_,h=>trivial
theorem anV {F0:(Nat->Prop)->aj->Prop} {x:cz} {V:Nat->ah} {v:ah} {l:List iP}:∀j G W,(if j=11 then fun G w=>bZ 219 5 kN G w v l else jJ F0 x V j) G W->jJ F0 { x with ss:=l } (iU 11 v V) j G W
 | 0,_,_,h=>h
 | 1,_,_,h=>h
 | 2,_,_,h=>h
 | 3,_,_,h=>h
 | 4,_,_,h=>h
 | 5,_,_,h=>h
 | 6,_,_,h=>h
 | 7,_,_,h=>h
 | 8,_,_,h=>h
 | 9,_,_,h=>h
 | 10,_,_,h=>h
 | 11,_,_,h=>h
 | 12,_,_,h=>h
 | _+13,_,_,h=>trivial
theorem anP {F0:(Nat->Prop)->aj->Prop} {x:cz} {V:Nat->ah} {v:ah} {l:List Md.Lw}:∀j G W,(if j=12 then fun G w=>bZ 241 3 kL G w v l else jJ F0 x V j) G W->jJ F0 { x with la:=l } (iU 12 v V) j G W
 | 0,_,_,h=>h
 | 1,_,_,h=>h
 | 2,_,_,h=>h
 | 3,_,_,h=>h
 | 4,_,_,h=>h
 | 5,_,_,h=>h
 | 6,_,_,h=>h
 | 7,_,_,h=>h
 | 8,_,_,h=>h
 | 9,_,_,h=>h
 | 10,_,_,h=>h
 | 11,_,_,h=>h
 | 12,_,_,h=>h
 | _+13,_,_,h=>trivial
def DO {α:Type} (L:Lk) (g lo:Nat) (S:α->aj->Prop) (r:R α) (w:aj) (e:Ending) (w':aj):Prop:=
 bS (fun k=>k<lo/\¬k=g) w w'/\match r with
  | .ok y u=>e=.returned (.tuple #[])/\S y w'/\Rd L g u w'
  | .no u=>e=.panicked (tC (hd u).l)
section
variable {α:Type} {L:Lk} {g lo:Nat} {S:α->aj->Prop} {r:R α} {w w':aj} {e:Ending} {y:α} {u:List Tk}
theorem DO.ok (hr:r=.ok y u) (hb:bS (fun k=>k<lo/\¬k=g) w w') (hS:S y w') (hR:Rd L g u w'):DO L g lo S r w (.returned (.tuple #[])) w':=by subst hr;exact⟨hb,rfl,hS,hR⟩
theorem DO.no (hr:r=.no u) (hb:bS (fun k=>k<lo/\¬k=g) w w'):DO L g lo S r w (.panicked (tC (hd u).l)) w':=by subst hr;exact⟨hb,rfl⟩
theorem DO.cases (h:DO L g lo S r w e w'):(∃y u,r=.ok y u/\e=.returned (.tuple #[])/\bS (fun k=>k<lo/\¬k=g) w w'/\S y w'/\Rd L g u w')∨(∃u,r=.no u/\e=.panicked (tC (hd u).l)/\bS (fun k=>k<lo/\¬k=g) w w'):=by
 obtain⟨hb,h⟩:=h
 cases r with
 | ok y u=>exact .inl ⟨y,u,rfl,h.1,hb,h.2.1,h.2.2⟩
 | no u=>exact .inr ⟨u,rfl,h,hb⟩
end
theorem iw {g lo:Nat} {a w:aj} (h:Bt g a w):bS (fun k=>k<lo/\¬k=g) a w:=h.mono fun k _ hk=>hk.2
section
variable {L:Lk} {g:Nat} {t:List Tk}
theorem kI {p:Prop} (h:p:=by omega):p:=h
set_option maxRecDepth 100000 in
theorem agV (F0:(Nat->Prop)->aj->Prop) (h0:Mv F0) (lo B:Nat) (x:cz) (V:Nat->ah) (d:Nat) (w:aj) (hR:Rd L g t w) (hlo:g<lo) (hd:jT x d) (hdl:d<=30001) (hD:pF F0 lo B x V w):Calls Tryz.prog 128 #[.pointer (ak ⟨g,0,X⟩),.pointer (ak ⟨B,0,X⟩)] w (DO L g lo (fun y W=>∃V,pF F0 lo B y V W) (run (Ch x) t) w):=by
 obtain⟨r,hr⟩:∃r,run (Ch x) t=r:=⟨_,rfl⟩
 rw[hr];have HS:=au hr;have hg:=hR.blk;have HR:=au hR;have HB:Hid (Bt g w w):=au (bS.refl _ _);clear hR hr;have HM:=au (SY h0 x V);have HD:=au hD;have HL:=au hd;have ai2:=hD.yF;have hblt:=hD.box.lt;clear hD hd;go_enter Tryz.func128,Tryz.ntmps128;go_wp2_with fail;refine ac HS HB (dD aam _ (HR.out.low qe) bR) ?_ ?_
 · clear HS HB HR;rintro w1-HS b1 HR HB;replace HD:=au (HD.out.up HM.out (w1:=w1) qe);clear b1;have lm:ae w1 ⟨B,1,X⟩=ak (V 1):=HD.out.cell rfl;go_wp2_with fail;go_region_law (first|(rw[if_pos (by rfl)];refine Lib.wp_append_run _ _ _ _ _ rfl _ _ rfl rfl _ _ hrun ?_)|(go_simp;go_at_call 82;refine(ace _ (HR.out.low qe)).mono ?_;rintro e' wa h3;rcases h3.cases with⟨x3,u3,v3,r3,rfl,b3,V3,R3⟩|⟨u3,r3,rfl,b3⟩;rotate_left 1;(have bY:=HB.out;exact⟨rfl,DO.no (fw HS r3) (iw qe)⟩);obtain rfl:=V3;obtain⟨v5,w5,hrun,⟨p5,n5,rfl⟩,k5,f5,D5,q5⟩:=HD.out.push YH ik.map MF HM.out (w1:=wa) qe (i:=1) rfl bR rfl (y:=x3) (ce:=mQ x3) rfl (by have:=HL.out.va.len;omega);have lX:ae wa ⟨B,1,X⟩=ak (V 1):=(eT HD.out.box (S:=fun k=>k≠g) qe kI).get rfl;have ib:ae (wa.alloc (.cells (mQ x3) 105)) ⟨B,1,X⟩=ak (V 1):=(eT HD.out.box (S:=fun k=>k≠g) qe kI).get rfl;dsimp only [mQ] at hrun ib ⊢))
   all_goals
    replace HS:=eY HS r3;have iW:Hid (pF F0 lo B { x with va:=x.va++[x3] } (iU 1 (.slice p5 (x.va.length+1) n5) V) (w5.setCell ⟨B,1,X⟩ (.slice p5 (x.va.length+1) n5))):=au (D5.cast anY rfl);have qF:bS (fun k=>k<lo/\¬k=g) w (w5.setCell ⟨B,1,X⟩ (.slice p5 _ n5)):=bS.call (S':=fun k=>k<lo) (iw qh) q5 (fun k _ h=>h.1);have fD:=R3.low (w2:=w5.setCell ⟨B,1,X⟩ (.slice p5 _ n5)) (q5.mono fun k _ hk=>by have hk':k<=g:=hk;omega);have HQ:=au (ai qF fD);clear D5 q5 R3 b3 hrun k5 f5 qF fD;go_wp2_with fail
    (first|go_end0|refine ag (results_none rfl _ _ _) rfl ?_)
    exact DO.ok (dz HS) HQ.out.1 ⟨_,iW.out⟩ HQ.out.2
 clear HS HB HR;rintro w1-HS b1 HR HB;replace HD:=au (HD.out.up HM.out (w1:=w1) qe);clear b1;go_wp2_with fail;refine ac HS HB (dD Z7 _ (HR.out.low qe) bR) ?_ ?_
 · clear HS HB HR;rintro w2-HS b2 HR HB;replace HD:=au (HD.out.up HM.out (w1:=w2) qe);clear b2;have lm:ae w2 ⟨B,2,X⟩=ak (V 2):=HD.out.cell rfl;go_wp2_with fail;go_region_law (first|(rw[if_pos (by rfl)];refine Lib.wp_append_run _ _ _ _ _ rfl _ _ rfl rfl _ _ hrun ?_)|(go_simp;go_at_call 168;refine(alT _ (HR.out.low qe)).mono ?_;rintro e' wa h3;rcases h3.cases with⟨x3,u3,v3,r3,rfl,b3,V3,R3⟩|⟨u3,r3,rfl,b3⟩;rotate_left 1;(have bY:=HB.out;exact⟨rfl,DO.no (fw HS r3) (iw qe)⟩);obtain⟨_,rfl,P3,rfl,o3⟩:=V3;obtain⟨v5,w5,hrun,⟨p5,n5,rfl⟩,k5,f5,D5,q5⟩:=HD.out.push aiC iO.map abp HM.out (w1:=wa) qe (i:=2) rfl bR rfl (y:=x3) (ce:=dV x3 P3) ⟨P3,rfl,o3⟩ (by have:=HL.out.rs.len;omega);have lX:ae wa ⟨B,2,X⟩=ak (V 2):=(eT HD.out.box (S:=fun k=>k≠g) qe kI).get rfl;have ib:ae (wa.alloc (.cells (dV x3 P3) 199)) ⟨B,2,X⟩=ak (V 2):=(eT HD.out.box (S:=fun k=>k≠g) qe kI).get rfl;dsimp only [dV] at hrun ib ⊢))
   all_goals
    replace HS:=eY HS r3;have iW:Hid (pF F0 lo B { x with rs:=x.rs++[x3] } (iU 2 (.slice p5 (x.rs.length+1) n5) V) (w5.setCell ⟨B,2,X⟩ (.slice p5 (x.rs.length+1) n5))):=au (D5.cast anT rfl);have qF:bS (fun k=>k<lo/\¬k=g) w (w5.setCell ⟨B,2,X⟩ (.slice p5 _ n5)):=bS.call (S':=fun k=>k<lo) (iw qh) q5 (fun k _ h=>h.1);have fD:=R3.low (w2:=w5.setCell ⟨B,2,X⟩ (.slice p5 _ n5)) (q5.mono fun k _ hk=>by have hk':k<=g:=hk;omega);have HQ:=au (ai qF fD);clear D5 q5 R3 b3 hrun k5 f5 qF fD;go_wp2_with fail
    (first|go_end0|refine ag (results_none rfl _ _ _) rfl ?_)
    exact DO.ok (dz HS) HQ.out.1 ⟨_,iW.out⟩ HQ.out.2
 clear HS HB HR;rintro w2-HS b2 HR HB;replace HD:=au (HD.out.up HM.out (w1:=w2) qe);clear b2;go_wp2_with fail;refine ac HS HB (dD aah _ (HR.out.low qe) bR) ?_ ?_
 · clear HS HB HR;rintro w3-HS b3 HR HB;replace HD:=au (HD.out.up HM.out (w1:=w3) qe);clear b3;have lm:ae w3 ⟨B,3,X⟩=ak (V 3):=HD.out.cell rfl;go_wp2_with fail;go_region_law (first|(rw[if_pos (by rfl)];refine Lib.wp_append_run _ _ _ _ _ rfl _ _ rfl rfl _ _ hrun ?_)|(go_simp;go_at_call 169;refine(an2 _ (HR.out.low qe)).mono ?_;rintro e' wa h3;rcases h3.cases with⟨x3,u3,v3,r3,rfl,b3,V3,R3⟩|⟨u3,r3,rfl,b3⟩;rotate_left 1;(have bY:=HB.out;exact⟨rfl,DO.no (fw HS r3) (iw qe)⟩);obtain rfl:=V3;obtain⟨v5,w5,hrun,⟨p5,n5,rfl⟩,k5,f5,D5,q5⟩:=HD.out.push aiF jY.map abw HM.out (w1:=wa) qe (i:=3) rfl bR rfl (y:=x3) (ce:=lQ x3) rfl (by have:=HL.out.st.len;omega);have lX:ae wa ⟨B,3,X⟩=ak (V 3):=(eT HD.out.box (S:=fun k=>k≠g) qe kI).get rfl;have ib:ae (wa.alloc (.cells (lQ x3) 205)) ⟨B,3,X⟩=ak (V 3):=(eT HD.out.box (S:=fun k=>k≠g) qe kI).get rfl;dsimp only [lQ] at hrun ib ⊢))
   all_goals
    replace HS:=eY HS r3;have iW:Hid (pF F0 lo B { x with st:=x.st++[x3] } (iU 3 (.slice p5 (x.st.length+1) n5) V) (w5.setCell ⟨B,3,X⟩ (.slice p5 (x.st.length+1) n5))):=au (D5.cast anW rfl);have qF:bS (fun k=>k<lo/\¬k=g) w (w5.setCell ⟨B,3,X⟩ (.slice p5 _ n5)):=bS.call (S':=fun k=>k<lo) (iw qh) q5 (fun k _ h=>h.1);have fD:=R3.low (w2:=w5.setCell ⟨B,3,X⟩ (.slice p5 _ n5)) (q5.mono fun k _ hk=>by have hk':k<=g:=hk;omega);have HQ:=au (ai qF fD);clear D5 q5 R3 b3 hrun k5 f5 qF fD;go_wp2_with fail
    (first|go_end0|refine ag (results_none rfl _ _ _) rfl ?_)
    exact DO.ok (dz HS) HQ.out.1 ⟨_,iW.out⟩ HQ.out.2
 clear HS HB HR;rintro w3-HS b3 HR HB;replace HD:=au (HD.out.up HM.out (w1:=w3) qe);clear b3;go_wp2_with fail;refine ac HS HB (dD ZJ _ (HR.out.low qe) bR) ?_ ?_
 · clear HS HB HR;rintro w4-HS b4 HR HB;replace HD:=au (HD.out.up HM.out (w1:=w4) qe);clear b4;have lm:ae w4 ⟨B,4,X⟩=ak (V 4):=HD.out.cell rfl;go_wp2_with fail;go_region_law (first|(rw[if_pos (by rfl)];refine Lib.wp_append_run _ _ _ _ _ rfl _ _ rfl rfl _ _ hrun ?_)|(go_simp;go_at_call 170;refine(aeT _ (HR.out.low qe)).mono ?_;rintro e' wa h3;rcases h3.cases with⟨x3,u3,v3,r3,rfl,b3,V3,R3⟩|⟨u3,r3,rfl,b3⟩;rotate_left 1;(have bY:=HB.out;exact⟨rfl,DO.no (fw HS r3) (iw qe)⟩);obtain rfl:=V3;obtain⟨v5,w5,hrun,⟨p5,n5,rfl⟩,k5,f5,D5,q5⟩:=HD.out.push aiz jX.map abk HM.out (w1:=wa) qe (i:=4) rfl bR rfl (y:=x3) (ce:=lN x3) rfl (by have:=HL.out.be.len;omega);have lX:ae wa ⟨B,4,X⟩=ak (V 4):=(eT HD.out.box (S:=fun k=>k≠g) qe kI).get rfl;have ib:ae (wa.alloc (.cells (lN x3) 209)) ⟨B,4,X⟩=ak (V 4):=(eT HD.out.box (S:=fun k=>k≠g) qe kI).get rfl;dsimp only [lN] at hrun ib ⊢))
   all_goals
    replace HS:=eY HS r3;have iW:Hid (pF F0 lo B { x with be:=x.be++[x3] } (iU 4 (.slice p5 (x.be.length+1) n5) V) (w5.setCell ⟨B,4,X⟩ (.slice p5 (x.be.length+1) n5))):=au (D5.cast anN rfl);have qF:bS (fun k=>k<lo/\¬k=g) w (w5.setCell ⟨B,4,X⟩ (.slice p5 _ n5)):=bS.call (S':=fun k=>k<lo) (iw qh) q5 (fun k _ h=>h.1);have fD:=R3.low (w2:=w5.setCell ⟨B,4,X⟩ (.slice p5 _ n5)) (q5.mono fun k _ hk=>by have hk':k<=g:=hk;omega);have HQ:=au (ai qF fD);clear D5 q5 R3 b3 hrun k5 f5 qF fD;go_wp2_with fail
    (first|go_end0|refine ag (results_none rfl _ _ _) rfl ?_)
    exact DO.ok (dz HS) HQ.out.1 ⟨_,iW.out⟩ HQ.out.2
 clear HS HB HR;rintro w4-HS b4 HR HB;replace HD:=au (HD.out.up HM.out (w1:=w4) qe);clear b4;go_wp2_with fail;refine ac HS HB (dD Z5 _ (HR.out.low qe) bR) ?_ ?_
 · clear HS HB HR;rintro w5-HS b5 HR HB;replace HD:=au (HD.out.up HM.out (w1:=w5) qe);clear b5;have lm:ae w5 ⟨B,5,X⟩=ak (V 5):=HD.out.cell rfl;go_wp2_with fail;go_region_law (first|(rw[if_pos (by rfl)];refine Lib.wp_append_run _ _ _ _ _ rfl _ _ rfl rfl _ _ hrun ?_)|(go_simp;go_at_call 127;refine(E_ _ (HR.out.low qe)).mono ?_;rintro e' wa h3;rcases h3.cases with⟨x3,u3,v3,r3,rfl,b3,V3,R3⟩|⟨u3,r3,rfl,b3⟩;rotate_left 1;(have bY:=HB.out;exact⟨rfl,DO.no (fw HS r3) (iw qe)⟩);obtain rfl:=V3;obtain⟨v5,w5,hrun,⟨p5,n5,rfl⟩,k5,f5,D5,q5⟩:=HD.out.push H7 dU.map yO HM.out (w1:=wa) qe (i:=5) rfl bR rfl (y:=x3) (ce:=#[.string x3]) rfl (by have:=HL.out.qu.len;omega);have lX:ae wa ⟨B,5,X⟩=ak (V 5):=(eT HD.out.box (S:=fun k=>k≠g) qe kI).get rfl;have ib:ae (wa.alloc (.cells (#[.string x3]) 9)) ⟨B,5,X⟩=ak (V 5):=(eT HD.out.box (S:=fun k=>k≠g) qe kI).get rfl))
   all_goals
    replace HS:=eY HS r3;have iW:Hid (pF F0 lo B { x with qu:=x.qu++[x3] } (iU 5 (.slice p5 (x.qu.length+1) n5) V) (w5.setCell ⟨B,5,X⟩ (.slice p5 (x.qu.length+1) n5))):=au (D5.cast anR rfl);have qF:bS (fun k=>k<lo/\¬k=g) w (w5.setCell ⟨B,5,X⟩ (.slice p5 _ n5)):=bS.call (S':=fun k=>k<lo) (iw qh) q5 (fun k _ h=>h.1);have fD:=R3.low (w2:=w5.setCell ⟨B,5,X⟩ (.slice p5 _ n5)) (q5.mono fun k _ hk=>by have hk':k<=g:=hk;omega);have HQ:=au (ai qF fD);clear D5 q5 R3 b3 hrun k5 f5 qF fD;go_wp2_with fail
    (first|go_end0|refine ag (results_none rfl _ _ _) rfl ?_)
    exact DO.ok (dz HS) HQ.out.1 ⟨_,iW.out⟩ HQ.out.2
 clear HS HB HR;rintro w5-HS b5 HR HB;replace HD:=au (HD.out.up HM.out (w1:=w5) qe);clear b5;go_wp2_with fail;refine ac HS HB (dD aai _ (HR.out.low qe) bR) ?_ ?_
 · clear HS HB HR;rintro w6-HS b6 HR HB;replace HD:=au (HD.out.up HM.out (w1:=w6) qe);clear b6;have lm:ae w6 ⟨B,6,X⟩=ak (V 6):=HD.out.cell rfl;go_wp2_with fail;go_region_law (first|(rw[if_pos (by rfl)];refine Lib.wp_append_run _ _ _ _ _ rfl _ _ rfl rfl _ _ hrun ?_)|(go_simp;go_at_call 127;refine(E_ _ (HR.out.low qe)).mono ?_;rintro e' wa h3;rcases h3.cases with⟨x3,u3,v3,r3,rfl,b3,V3,R3⟩|⟨u3,r3,rfl,b3⟩;rotate_left 1;(have bY:=HB.out;exact⟨rfl,DO.no (fw HS r3) (iw qe)⟩);obtain rfl:=V3;obtain⟨v5,w5,hrun,⟨p5,n5,rfl⟩,k5,f5,D5,q5⟩:=HD.out.push H7 dU.map yO HM.out (w1:=wa) qe (i:=6) rfl bR rfl (y:=x3) (ce:=#[.string x3]) rfl (by have:=HL.out.sm.len;omega);have lX:ae wa ⟨B,6,X⟩=ak (V 6):=(eT HD.out.box (S:=fun k=>k≠g) qe kI).get rfl;have ib:ae (wa.alloc (.cells (#[.string x3]) 9)) ⟨B,6,X⟩=ak (V 6):=(eT HD.out.box (S:=fun k=>k≠g) qe kI).get rfl))
   all_goals
    replace HS:=eY HS r3;have iW:Hid (pF F0 lo B { x with sm:=x.sm++[x3] } (iU 6 (.slice p5 (x.sm.length+1) n5) V) (w5.setCell ⟨B,6,X⟩ (.slice p5 (x.sm.length+1) n5))):=au (D5.cast anU rfl);have qF:bS (fun k=>k<lo/\¬k=g) w (w5.setCell ⟨B,6,X⟩ (.slice p5 _ n5)):=bS.call (S':=fun k=>k<lo) (iw qh) q5 (fun k _ h=>h.1);have fD:=R3.low (w2:=w5.setCell ⟨B,6,X⟩ (.slice p5 _ n5)) (q5.mono fun k _ hk=>by have hk':k<=g:=hk;omega);have HQ:=au (ai qF fD);clear D5 q5 R3 b3 hrun k5 f5 qF fD;go_wp2_with fail
    (first|go_end0|refine ag (results_none rfl _ _ _) rfl ?_)
    exact DO.ok (dz HS) HQ.out.1 ⟨_,iW.out⟩ HQ.out.2
 clear HS HB HR;rintro w6-HS b6 HR HB;replace HD:=au (HD.out.up HM.out (w1:=w6) qe);clear b6;go_wp2_with fail;refine ac HS HB (dD aak _ (HR.out.low qe) bR) ?_ ?_
 · clear HS HB HR;rintro w7-HS b7 HR HB;replace HD:=au (HD.out.up HM.out (w1:=w7) qe);clear b7;have lm:ae w7 ⟨B,7,X⟩=ak (V 7):=HD.out.cell rfl;go_wp2_with fail;go_region_law (first|(rw[if_pos (by rfl)];refine Lib.wp_append_run _ _ _ _ _ rfl _ _ rfl rfl _ _ hrun ?_)|(go_simp;go_at_call 127;refine(E_ _ (HR.out.low qe)).mono ?_;rintro e' wa h3;rcases h3.cases with⟨x3,u3,v3,r3,rfl,b3,V3,R3⟩|⟨u3,r3,rfl,b3⟩;rotate_left 1;(have bY:=HB.out;exact⟨rfl,DO.no (fw HS r3) (iw qe)⟩);obtain rfl:=V3;obtain⟨v5,w5,hrun,⟨p5,n5,rfl⟩,k5,f5,D5,q5⟩:=HD.out.push H7 dU.map yO HM.out (w1:=wa) qe (i:=7) rfl bR rfl (y:=x3) (ce:=#[.string x3]) rfl (by have:=HL.out.ta.len;omega);have lX:ae wa ⟨B,7,X⟩=ak (V 7):=(eT HD.out.box (S:=fun k=>k≠g) qe kI).get rfl;have ib:ae (wa.alloc (.cells (#[.string x3]) 9)) ⟨B,7,X⟩=ak (V 7):=(eT HD.out.box (S:=fun k=>k≠g) qe kI).get rfl))
   all_goals
    replace HS:=eY HS r3;have iW:Hid (pF F0 lo B { x with ta:=x.ta++[x3] } (iU 7 (.slice p5 (x.ta.length+1) n5) V) (w5.setCell ⟨B,7,X⟩ (.slice p5 (x.ta.length+1) n5))):=au (D5.cast anX rfl);have qF:bS (fun k=>k<lo/\¬k=g) w (w5.setCell ⟨B,7,X⟩ (.slice p5 _ n5)):=bS.call (S':=fun k=>k<lo) (iw qh) q5 (fun k _ h=>h.1);have fD:=R3.low (w2:=w5.setCell ⟨B,7,X⟩ (.slice p5 _ n5)) (q5.mono fun k _ hk=>by have hk':k<=g:=hk;omega);have HQ:=au (ai qF fD);clear D5 q5 R3 b3 hrun k5 f5 qF fD;go_wp2_with fail
    (first|go_end0|refine ag (results_none rfl _ _ _) rfl ?_)
    exact DO.ok (dz HS) HQ.out.1 ⟨_,iW.out⟩ HQ.out.2
 clear HS HB HR;rintro w7-HS b7 HR HB;replace HD:=au (HD.out.up HM.out (w1:=w7) qe);clear b7;go_wp2_with fail;refine ac HS HB (dD LB _ (HR.out.low qe) bR) ?_ ?_
 · clear HS HB HR;rintro w8-HS b8 HR HB;replace HD:=au (HD.out.up HM.out (w1:=w8) qe);clear b8;have lm:ae w8 ⟨B,8,X⟩=ak (V 8):=HD.out.cell rfl;go_wp2_with fail;go_region_law (first|(rw[if_pos (by rfl)];refine Lib.wp_append_run _ _ _ _ _ rfl _ _ rfl rfl _ _ hrun ?_)|(go_simp;go_at_call 127;refine(E_ _ (HR.out.low qe)).mono ?_;rintro e' wa h3;rcases h3.cases with⟨x3,u3,v3,r3,rfl,b3,V3,R3⟩|⟨u3,r3,rfl,b3⟩;rotate_left 1;(have bY:=HB.out;exact⟨rfl,DO.no (fw HS r3) (iw qe)⟩);obtain rfl:=V3;obtain⟨v5,w5,hrun,⟨p5,n5,rfl⟩,k5,f5,D5,q5⟩:=HD.out.push H7 dU.map yO HM.out (w1:=wa) qe (i:=8) rfl bR rfl (y:=x3) (ce:=#[.string x3]) rfl (by have:=HL.out.le.len;omega);have lX:ae wa ⟨B,8,X⟩=ak (V 8):=(eT HD.out.box (S:=fun k=>k≠g) qe kI).get rfl;have ib:ae (wa.alloc (.cells (#[.string x3]) 9)) ⟨B,8,X⟩=ak (V 8):=(eT HD.out.box (S:=fun k=>k≠g) qe kI).get rfl))
   all_goals
    replace HS:=eY HS r3;have iW:Hid (pF F0 lo B { x with le:=x.le++[x3] } (iU 8 (.slice p5 (x.le.length+1) n5) V) (w5.setCell ⟨B,8,X⟩ (.slice p5 (x.le.length+1) n5))):=au (D5.cast anQ rfl);have qF:bS (fun k=>k<lo/\¬k=g) w (w5.setCell ⟨B,8,X⟩ (.slice p5 _ n5)):=bS.call (S':=fun k=>k<lo) (iw qh) q5 (fun k _ h=>h.1);have fD:=R3.low (w2:=w5.setCell ⟨B,8,X⟩ (.slice p5 _ n5)) (q5.mono fun k _ hk=>by have hk':k<=g:=hk;omega);have HQ:=au (ai qF fD);clear D5 q5 R3 b3 hrun k5 f5 qF fD;go_wp2_with fail
    (first|go_end0|refine ag (results_none rfl _ _ _) rfl ?_)
    exact DO.ok (dz HS) HQ.out.1 ⟨_,iW.out⟩ HQ.out.2
 clear HS HB HR;rintro w8-HS b8 HR HB;replace HD:=au (HD.out.up HM.out (w1:=w8) qe);clear b8;go_wp2_with fail;refine ac HS HB (dD ZM _ (HR.out.low qe) bR) ?_ ?_
 · clear HS HB HR;rintro w9-HS b9 HR HB;replace HD:=au (HD.out.up HM.out (w1:=w9) qe);clear b9;have lm:ae w9 ⟨B,9,X⟩=ak (V 9):=HD.out.cell rfl;go_wp2_with fail;go_region_law (first|(rw[if_pos (by rfl)];refine Lib.wp_append_run _ _ _ _ _ rfl _ _ rfl rfl _ _ hrun ?_)|(go_simp;go_at_call 127;refine(E_ _ (HR.out.low qe)).mono ?_;rintro e' wa h3;rcases h3.cases with⟨x3,u3,v3,r3,rfl,b3,V3,R3⟩|⟨u3,r3,rfl,b3⟩;rotate_left 1;(have bY:=HB.out;exact⟨rfl,DO.no (fw HS r3) (iw qe)⟩);obtain rfl:=V3;obtain⟨v5,w5,hrun,⟨p5,n5,rfl⟩,k5,f5,D5,q5⟩:=HD.out.push H7 dU.map yO HM.out (w1:=wa) qe (i:=9) rfl bR rfl (y:=x3) (ce:=#[.string x3]) rfl (by have:=HL.out.co.len;omega);have lX:ae wa ⟨B,9,X⟩=ak (V 9):=(eT HD.out.box (S:=fun k=>k≠g) qe kI).get rfl;have ib:ae (wa.alloc (.cells (#[.string x3]) 9)) ⟨B,9,X⟩=ak (V 9):=(eT HD.out.box (S:=fun k=>k≠g) qe kI).get rfl))
   all_goals
    replace HS:=eY HS r3;have iW:Hid (pF F0 lo B { x with co:=x.co++[x3] } (iU 9 (.slice p5 (x.co.length+1) n5) V) (w5.setCell ⟨B,9,X⟩ (.slice p5 (x.co.length+1) n5))):=au (D5.cast anO rfl);have qF:bS (fun k=>k<lo/\¬k=g) w (w5.setCell ⟨B,9,X⟩ (.slice p5 _ n5)):=bS.call (S':=fun k=>k<lo) (iw qh) q5 (fun k _ h=>h.1);have fD:=R3.low (w2:=w5.setCell ⟨B,9,X⟩ (.slice p5 _ n5)) (q5.mono fun k _ hk=>by have hk':k<=g:=hk;omega);have HQ:=au (ai qF fD);clear D5 q5 R3 b3 hrun k5 f5 qF fD;go_wp2_with fail
    (first|go_end0|refine ag (results_none rfl _ _ _) rfl ?_)
    exact DO.ok (dz HS) HQ.out.1 ⟨_,iW.out⟩ HQ.out.2
 clear HS HB HR;rintro w9-HS b9 HR HB;replace HD:=au (HD.out.up HM.out (w1:=w9) qe);clear b9;go_wp2_with fail;refine ac HS HB (dD Z9 _ (HR.out.low qe) bR) ?_ ?_
 · clear HS HB HR;rintro fT-HS b10 HR HB;replace HD:=au (HD.out.up HM.out (w1:=fT) qe);clear b10;have lm:ae fT ⟨B,10,X⟩=ak (V 10):=HD.out.cell rfl;go_wp2_with fail;go_region_law (first|(rw[if_pos (by rfl)];refine Lib.wp_append_run _ _ _ _ _ rfl _ _ rfl rfl _ _ hrun ?_)|(go_simp;go_at_call 171;refine(Mx _ (HR.out.low qe)).mono ?_;rintro e' wa h3;rcases h3.cases with⟨x3,u3,v3,r3,rfl,b3,V3,R3⟩|⟨u3,r3,rfl,b3⟩;rotate_left 1;(have bY:=HB.out;exact⟨rfl,DO.no (fw HS r3) (iw qe)⟩);obtain⟨_,rfl,P3,rfl,o3⟩:=V3;obtain⟨v5,w5,hrun,⟨p5,n5,rfl⟩,k5,f5,D5,q5⟩:=HD.out.push aiD gU.map abq HM.out (w1:=wa) qe (i:=10) rfl bR rfl (y:=x3) (ce:=jQ x3 P3) ⟨P3,rfl,o3⟩ (by have:=HL.out.ro.len;omega);have lX:ae wa ⟨B,10,X⟩=ak (V 10):=(eT HD.out.box (S:=fun k=>k≠g) qe kI).get rfl;have ib:ae (wa.alloc (.cells (jQ x3 P3) 215)) ⟨B,10,X⟩=ak (V 10):=(eT HD.out.box (S:=fun k=>k≠g) qe kI).get rfl;dsimp only [jQ] at hrun ib ⊢))
   all_goals
    replace HS:=eY HS r3;have iW:Hid (pF F0 lo B { x with ro:=x.ro++[x3] } (iU 10 (.slice p5 (x.ro.length+1) n5) V) (w5.setCell ⟨B,10,X⟩ (.slice p5 (x.ro.length+1) n5))):=au (D5.cast anS rfl);have qF:bS (fun k=>k<lo/\¬k=g) w (w5.setCell ⟨B,10,X⟩ (.slice p5 _ n5)):=bS.call (S':=fun k=>k<lo) (iw qh) q5 (fun k _ h=>h.1);have fD:=R3.low (w2:=w5.setCell ⟨B,10,X⟩ (.slice p5 _ n5)) (q5.mono fun k _ hk=>by have hk':k<=g:=hk;omega);have HQ:=au (ai qF fD);clear D5 q5 R3 b3 hrun k5 f5 qF fD;go_wp2_with fail
    (first|go_end0|refine ag (results_none rfl _ _ _) rfl ?_)
    exact DO.ok (dz HS) HQ.out.1 ⟨_,iW.out⟩ HQ.out.2
 clear HS HB HR;rintro fT-HS b10 HR HB;replace HD:=au (HD.out.up HM.out (w1:=fT) qe);clear b10;go_wp2_with fail;refine ac HS HB (dD aaf _ (HR.out.low qe) bR) ?_ ?_
 · clear HS HB HR;rintro ku-HS b11 HR HB;replace HD:=au (HD.out.up HM.out (w1:=ku) qe);clear b11;have lm:ae ku ⟨B,11,X⟩=ak (V 11):=HD.out.cell rfl;go_wp2_with fail;go_region_law (first|(rw[if_pos (by rfl)];refine Lib.wp_append_run _ _ _ _ _ rfl _ _ rfl rfl _ _ hrun ?_)|(go_simp;go_at_call 172;refine(anJ _ (HR.out.low qe)).mono ?_;rintro e' wa h3;rcases h3.cases with⟨x3,u3,v3,r3,rfl,b3,V3,R3⟩|⟨u3,r3,rfl,b3⟩;rotate_left 1;(have bY:=HB.out;exact⟨rfl,DO.no (fw HS r3) (iw qe)⟩);obtain⟨_,rfl,P3,rfl,o3⟩:=V3;obtain⟨v5,w5,hrun,⟨p5,n5,rfl⟩,k5,f5,D5,q5⟩:=HD.out.push aiE kN.map abt HM.out (w1:=wa) qe (i:=11) rfl bR rfl (y:=x3) (ce:=iZ x3 P3) ⟨P3,rfl,o3⟩ (by have:=HL.out.ss.len;omega);have lX:ae wa ⟨B,11,X⟩=ak (V 11):=(eT HD.out.box (S:=fun k=>k≠g) qe kI).get rfl;have ib:ae (wa.alloc (.cells (iZ x3 P3) 219)) ⟨B,11,X⟩=ak (V 11):=(eT HD.out.box (S:=fun k=>k≠g) qe kI).get rfl;dsimp only [iZ] at hrun ib ⊢))
   all_goals
    replace HS:=eY HS r3;have iW:Hid (pF F0 lo B { x with ss:=x.ss++[x3] } (iU 11 (.slice p5 (x.ss.length+1) n5) V) (w5.setCell ⟨B,11,X⟩ (.slice p5 (x.ss.length+1) n5))):=au (D5.cast anV rfl);have qF:bS (fun k=>k<lo/\¬k=g) w (w5.setCell ⟨B,11,X⟩ (.slice p5 _ n5)):=bS.call (S':=fun k=>k<lo) (iw qh) q5 (fun k _ h=>h.1);have fD:=R3.low (w2:=w5.setCell ⟨B,11,X⟩ (.slice p5 _ n5)) (q5.mono fun k _ hk=>by have hk':k<=g:=hk;omega);have HQ:=au (ai qF fD);clear D5 q5 R3 b3 hrun k5 f5 qF fD;go_wp2_with fail
    (first|go_end0|refine ag (results_none rfl _ _ _) rfl ?_)
    exact DO.ok (dz HS) HQ.out.1 ⟨_,iW.out⟩ HQ.out.2
 clear HS HB HR;rintro ku-HS b11 HR HB;replace HD:=au (HD.out.up HM.out (w1:=ku) qe);clear b11;go_wp2_with fail;refine ac HS HB (dD ZK _ (HR.out.low qe) bR) ?_ ?_
 · clear HS HB HR;rintro vQ-HS b12 HR HB;replace HD:=au (HD.out.up HM.out (w1:=vQ) qe);clear b12;have lm:ae vQ ⟨B,12,X⟩=ak (V 12):=HD.out.cell rfl;go_wp2_with fail;go_region_law (first|(rw[if_pos (by rfl)];refine Lib.wp_append_run _ _ _ _ _ rfl _ _ rfl rfl _ _ hrun ?_)|(go_simp;go_at_call 173;refine(ajQ _ (HR.out.low qe)).mono ?_;rintro e' wa h3;rcases h3.cases with⟨x3,u3,v3,r3,rfl,b3,V3,R3⟩|⟨u3,r3,rfl,b3⟩;rotate_left 1;(have bY:=HB.out;exact⟨rfl,DO.no (fw HS r3) (iw qe)⟩);obtain⟨_,rfl,P3,rfl,o3⟩:=V3;obtain⟨v5,w5,hrun,⟨p5,n5,rfl⟩,k5,f5,D5,q5⟩:=HD.out.push gLw kL.map abn HM.out (w1:=wa) qe (i:=12) rfl bR rfl (y:=x3) (ce:=jm x3 P3) ⟨P3,rfl,o3⟩ (by have:=HL.out.la.len;omega);have lX:ae wa ⟨B,12,X⟩=ak (V 12):=(eT HD.out.box (S:=fun k=>k≠g) qe kI).get rfl;have ib:ae (wa.alloc (.cells (jm x3 P3) 241)) ⟨B,12,X⟩=ak (V 12):=(eT HD.out.box (S:=fun k=>k≠g) qe kI).get rfl;dsimp only [jm] at hrun ib ⊢))
   all_goals
    replace HS:=eY HS r3;have iW:Hid (pF F0 lo B { x with la:=x.la++[x3] } (iU 12 (.slice p5 (x.la.length+1) n5) V) (w5.setCell ⟨B,12,X⟩ (.slice p5 (x.la.length+1) n5))):=au (D5.cast anP rfl);have qF:bS (fun k=>k<lo/\¬k=g) w (w5.setCell ⟨B,12,X⟩ (.slice p5 _ n5)):=bS.call (S':=fun k=>k<lo) (iw qh) q5 (fun k _ h=>h.1);have fD:=R3.low (w2:=w5.setCell ⟨B,12,X⟩ (.slice p5 _ n5)) (q5.mono fun k _ hk=>by have hk':k<=g:=hk;omega);have HQ:=au (ai qF fD);clear D5 q5 R3 b3 hrun k5 f5 qF fD;go_wp2_with fail
    (first|go_end0|refine ag (results_none rfl _ _ _) rfl ?_)
    exact DO.ok (dz HS) HQ.out.1 ⟨_,iW.out⟩ HQ.out.2
 clear HS HB HR;rintro vQ-HS b12 HR HB;replace HD:=au (HD.out.up HM.out (w1:=vQ) qe);clear b12;exact zzo
end
end Ps
end Go.Proofs.YtkpekhpgdajabaaGreatDoor
