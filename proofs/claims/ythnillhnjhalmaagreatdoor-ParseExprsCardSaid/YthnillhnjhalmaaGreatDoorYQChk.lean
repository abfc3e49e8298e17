/-
  Parts of this proof: The contracts of checkSites and of Check. A model among the arguments. How much is read of models.
-/
import Derived.Test.YthnillhnjhalmaaGreatDoorYQLws
open Nat renaming le_trans->ae
open Go.Ground renaming phase->af
open Go.Act renaming put->ag
open Go.Proofs.Tryz renaming prog->ah
open Go renaming World->ai
open Option renaming some->aj
set_option linter.unusedSimpArgs false
set_option linter.unusedVariables false
set_option maxRecDepth 100000
set_option maxHeartbeats 8000000
namespace Go.Proofs.YthnillhnjhalmaaGreatDoor
namespace Md
open Go.RowKit Go.Maps
open Na (bs fT)
open Sm (tH ic oL)
open Ex (Lo Gives)
theorem ao2 (hK:vI) (l:List cZ) (p:Option Addr) (m c:Nat) (w0:ai) (hx:Rw 13 g_ (Lo w0.heap.size) w0 l p m) (hz:∀x∈l,Bv x) (b B1:Nat) (hb:w0.heap.size<=b) (h1:B1≠b) (W:ai) (hW:gy w0 b (fun V=>V.cell? ⟨B1,0,none⟩=aj (.map (aj b))) [] W) :
 Calls ah 94 #[.slice p m c,.int .i64 ((16:Nat):Int),.func (.func 95) #[] #[.pointer (aj ⟨B1,0,none⟩)]] W (fun e W2=>e=.returned (.int .i64 (dB eP 16 (l.map Ka) []).1)/\Below w0.heap.size w0 W2):=by
 have hSt:rz b (fun V=>V.cell? ⟨B1,0,none⟩=aj (.map (aj b))):=fun V V2 h hbt=>xy hbt h h1;rw[oD];refine(aiY (Lib.hid hx) #[] #[.pointer (aj ⟨B1,0,none⟩)] _ (Lib.hid (gy.fine hb hSt)) (fun a l=>eP a (Ka l)) 16 bU [] (Lib.hid fun k s x c V hxk hm hg hR hI=>?_) W (Lib.hid hW)).mono fun e W2 h=>⟨h.1,h.2.below⟩
 rw[Fg];obtain⟨Q,rfl,hQ⟩:=hR;have hsh:=Ay hm hg;have hzx:=hz x (List.mem_of_getElem? hxk);have hl0:s.length<=0+16:=hsh;refine(ah6 x Q b B1 s V hI.uU bU hzx.nm hI.k h1 (Gy x) (Lib.hid fun V2 hbt=>?_)).mono fun e W2 h=>hI.step hb hSt h;have hb2:Below w0.heap.size w0 V2:=But.below hI.below hbt hb hI.below.size;exact ahD hK x Q V2 ((hQ.below (QK hI.below hbt hb)).up hb2.size) hzx
theorem ahE (hK:vI) (l:List cZ) (p:Option Addr) (m c:Nat) (w:ai) (hx:Rw 13 g_ (Lo w.heap.size) w l p m) (hz:∀x∈l,Bv x):Calls ah 53 #[.slice p m c] w (Gives (.int .i64 (if l.length=0 then 7 else (dB eP 16 (l.map Ka) []).1)) w):=by
 obtain⟨hl,hm⟩:=hx.len;have hmm:=@run_makeMap ah;by_cases h0:m=0
 · rw[if_pos bU];subst h0;clear hx hz hl hm;go_enter Tryz.func53,Tryz.ntmps53;exact dS
 · rw[if_neg bU];obtain⟨v,hv⟩:∃v,(dB eP 16 (l.map Ka) []).1=v:=⟨_,rfl⟩
   have CE:=Lib.hid (fun W (h1:Below w.heap.size w W) (h2:iJ w.heap.size [] W) (h3:W.cell? ⟨w.heap.size+1,0,none⟩=aj (.map (aj w.heap.size)))=>(show Calls ah 94 #[.slice p m c,.int .i64 16,.func (.func 95) #[] #[.pointer (aj ⟨w.heap.size+1,0,none⟩)]] W (PU w (.int .i64 v)) by
    rw[← hv];exact ao2 hK l p m c w hx hz w.heap.size (w.heap.size+1) bU bU W ⟨h1,h2,h3⟩))
   have d0:¬(m:Int)=0:=by omega
   rw[hv];clear hx hz hl hm hv h0;go_enter Tryz.func53,Tryz.ntmps53;go_wp2_with fail;refine(CE.out _ bl ((J8 (w:=w) rfl).on bl) (by go_simp)).mono ?_;exact afi
structure W9 (x:dM):Prop where
 nm:x.nm.size<=9223372036854775807
 pa:∀y∈x.pa,y.nm.size<=9223372036854775807
 si:∀y∈x.si,Bv y
 li:∀l∈x.li,l.fr.size<=1000000000/\l.tt.size<=1000000000
structure oQ (w:ai) (P:lN) (x:dM) (n4:Nat) (W:ai):Prop where
 f0:W.cell? ⟨w.heap.size,0,none⟩=aj (.string x.nm)
 f1:W.cell? ⟨w.heap.size,1,none⟩=aj (.slice P.pap P.El P.Ej)
 f2:W.cell? ⟨w.heap.size,2,none⟩=aj (.slice P.zM P.yu P.Cc)
 ld:(loadCellsFrom ⟨w.heap.size,0,none⟩ 0 n4 #[]).run ah W=.ok (dX x P) W
structure MdC (w:ai) (P:lN) (x:dM) (n4:Nat) (v1 v2 v3 v4:Int):Prop where
 c1:∀W,Below w.heap.size w W->Calls ah 50 #[.string x.nm] W (Gives (.int .i64 v1) W)
 c2:∀W b,(w.alloc (.cells (dX x P) 36)).heap.size<=b->Below (w.alloc (.cells (dX x P) 36)).heap.size (w.alloc (.cells (dX x P) 36)) W->iJ b [] W->Calls ah 51 #[.slice P.pap P.El P.Ej,.int .i64 32,.func (.func 52) #[.map (aj b)] #[]] W (fun e W2=>e=.returned (.int .i64 v2)/\Below (w.alloc (.cells (dX x P) 36)).heap.size (w.alloc (.cells (dX x P) 36)) W2)
 c3:∀W,Below w.heap.size w W->Calls ah 53 #[.slice P.zM P.yu P.Cc] W (Gives (.int .i64 v3) W)
 c4:∀W,Below w.heap.size w W->Calls ah 54 #[.agg (dX x P)] W (Gives (.int .i64 v4) W)
 fs:∀W,Below (w.alloc (.cells (dX x P) 36)).heap.size (w.alloc (.cells (dX x P) 36)) W->oQ w P x n4 W
theorem ahq (w:ai) (t:TypeId) (r0 r1 r2 r3:Int):∀i,(h:i<[r0,r1,r2,r3].length)->(w.alloc (.cells #[.int .i64 r0,.int .i64 r1,.int .i64 r2,.int .i64 r3] t)).cell? ⟨w.heap.size,i,none⟩=aj (.int .i64 [r0,r1,r2,r3][i]):=by
 intro i h;rw[World.cell?_alloc_mark]
 match i,h with
 | 0,_=>rfl
 | 1,_=>rfl
 | 2,_=>rfl
 | 3,_=>rfl
theorem KO {p:Prop} (h:p:=by
 clear hHeld HC hmm
 first|(go_simp;done)|(go_simp;with_reducible rfl)|(go_simp;rfl)
 ):p:=h
theorem He {p:Prop} (h:p:=by
 intro W2 hS2;replace hS2:=(show oQ w P x n4 W2 from hS2)
 exact KO
 ):p:=h
theorem aeZ {p:Prop} (h:p:=by
 rintro e u2 ⟨rfl,hb2⟩;clear hHeld;refine hK.out _ _ (show((fun(W:ai)=>oQ w P x n4 W)) _ from HC.fs _ bl) (fun hHeld=>?_);clear hK K
 try simp only[ag,sA,sB,sC]
 refine hcall 10 (fun K hK=>?_)
 go_simp
 refine(HC.c3 _ bl).mono ?_;rintro e u3 ⟨rfl,hb3⟩;clear hHeld;refine hK.out _ _ (show((fun(W:ai)=>oQ w P x n4 W)) _ from HC.fs _ bl) (fun hHeld=>?_);clear hK K
 try simp only[ag,sA,sB,sC]
 refine hcall 12 (fun K hK=>?_)
 go_simp
 refine(HC.c4 _ bl).mono ?_;rintro e u4 ⟨rfl,hb4⟩;clear hHeld;refine hK.out _ _ (show((fun(W:ai)=>oQ w P x n4 W)) _ from HC.fs _ bl) (fun hHeld=>?_);clear hK K
 try simp only[ag,sA,sB,sC]
 refine hcall 13 (fun K hK=>?_)
 go_simp
 clear hHeld;refine hK.out _ _ (show((fun(W:ai)=>oQ w P x n4 W)) _ from HC.fs _ bl) (fun hHeld=>?_);clear hK K
 try simp only[ag,sA,sB,sC]
 refine hcall 14 (fun K hK=>?_)
 go_simp
 refine(oL [v1,v2,v3,v4] _ 4 4 _ rfl bU (Lib.hid (ahq _ _ _ _ _ _))).mono ?_;rintro e w9 ⟨rfl,rfl⟩;clear hHeld;refine hK.out _ _ (show((fun(W:ai)=>oQ w P x n4 W)) _ from HC.fs _ bl) (fun hHeld=>?_);clear hK K
 try simp only[ag,sA,sB,sC]
 refine wpAnyH_take (i:=15) (oi:={ dst:=aj 2,op:=Op.assign (Operand.tmp 17),type:=27,pos := "model.go:24",after:=#[{ on:=14,ground:=Ground.data },{ on:=14,ground:=Ground.chain },{ on:=0,ground:=af },{ on:=1,ground:=af },{ on:=2,ground:=af },{ on:=3,ground:=af },{ on:=4,ground:=af },{ on:=5,ground:=af },{ on:=6,ground:=af },{ on:=7,ground:=af },{ on:=8,ground:=af },{ on:=9,ground:=af },{ on:=10,ground:=af },{ on:=11,ground:=af },{ on:=12,ground:=af },{ on:=13,ground:=af },{ on:=14,ground:=af }],guard:=none }) (v:=(.int .i64 (ic [v1,v2,v3,v4]):Value)) rfl dA dA dA (fun _ _ _ h=>h) (Or.inl ⟨by rfl,?_⟩) (by assumption) ?_
 · exact He
 try simp only[ag,sA,sB,sC]
 refine wpAnyH_done dA ?_ _;refine NoPanic.normal ?_;exact dS
 ):p:=h
theorem ahL (x:dM) (P:lN) (w:ai) (n4:Nat) (akv:∀w,(sizeOf 36).run ah w=.ok n4 w) (v1 v2 v3 v4:Int) (HC:MdC w P x n4 v1 v2 v3 v4):Calls ah 22 #[.agg (dX x P)] w (Gives (.int .i64 (ic [v1,v2,v3,v4])) w):=by
 have hmm:=@run_makeMap ah;go_enter Tryz.func22,Tryz.ntmps22;go_wp2_with fail;refine wp_region_noPanic ?_;refine wp_region_held_drew (S:=(fun(W:ai)=>oQ w P x n4 W)) dA (show((fun(W:ai)=>oQ w P x n4 W)) _ from HC.fs _ bl) (fun hHeld=>?_);refine htake 0 ((.pointer (aj ⟨w.heap.size,0,none⟩):Value)) (hy:=?_) (h:=?_)
 · exact He
 try simp only[ag,sA,sB,sC]
 refine htake 1 ((.string x.nm:Value)) (hy:=?_) (h:=?_)
 · intro W2 hS2;replace hS2:=(show oQ w P x n4 W2 from hS2)
   have qf0:=hS2.f0;exact KO
 try simp only[ag,sA,sB,sC]
 refine htake 3 ((.pointer (aj ⟨w.heap.size,1,none⟩):Value)) (hy:=?_) (h:=?_)
 · exact He
 try simp only[ag,sA,sB,sC]
 refine htake 4 ((.slice P.pap P.El P.Ej:Value)) (hy:=?_) (h:=?_)
 · intro W2 hS2;replace hS2:=(show oQ w P x n4 W2 from hS2)
   have qf1:=hS2.f1;exact KO
 try simp only[ag,sA,sB,sC]
 refine htake 8 ((.pointer (aj ⟨w.heap.size,2,none⟩):Value)) (hy:=?_) (h:=?_)
 · exact He
 try simp only[ag,sA,sB,sC]
 refine htake 9 ((.slice P.zM P.yu P.Cc:Value)) (hy:=?_) (h:=?_)
 · intro W2 hS2;replace hS2:=(show oQ w P x n4 W2 from hS2)
   have qf2:=hS2.f2;exact KO
 try simp only[ag,sA,sB,sC]
 refine htake 11 ((.agg (dX x P):Value)) (hy:=?_) (h:=?_)
 · intro W2 hS2;replace hS2:=(show oQ w P x n4 W2 from hS2)
   have qld:=hS2.ld;exact KO
 try simp only[ag,sA,sB,sC]
 refine jW [2,5] ?_;refine jr (fun K hK=>?_) ?_;rotate_left 1
 · refine jr (fun K hK=>?_) AllReadyH.nil
   go_simp
   clear hHeld;refine hK.out _ _ (show((fun(W:ai)=>oQ w P x n4 W)) _ from HC.fs _ bl) (fun hHeld=>?_);clear hK K
   try simp only[ag,sA,sB,sC]
   refine htake 6 ((.func (.func 52) #[.map (aj (w.heap.size+1))] #[]:Value)) (hy:=?_) (h:=?_)
   · exact He
   try simp only[ag,sA,sB,sC]
   refine hcall 2 (fun K hK=>?_)
   go_simp
   refine(HC.c1 _ bl).mono ?_;rintro e u1 ⟨rfl,hb1⟩;clear hHeld;refine hK.out _ _ (show((fun(W:ai)=>oQ w P x n4 W)) _ from HC.fs _ bl) (fun hHeld=>?_);clear hK K
   try simp only[ag,sA,sB,sC]
   refine hcall 7 (fun K hK=>?_)
   go_simp
   refine(HC.c2 _ _ cz bl ((J8 (w:=(w.alloc (.cells (dX x P) 36))) (n:=w.heap.size+1) cz).on bl)).mono ?_;exact aeZ
 go_simp
 refine(HC.c1 _ bl).mono ?_;rintro e u1 ⟨rfl,hb1⟩;clear hHeld;refine hK.out _ _ (show((fun(W:ai)=>oQ w P x n4 W)) _ from HC.fs _ bl) (fun hHeld=>?_);clear hK K
 try simp only[ag,sA,sB,sC]
 refine hcall 5 (fun K hK=>?_)
 go_simp
 clear hHeld;refine hK.out _ _ (show((fun(W:ai)=>oQ w P x n4 W)) _ from HC.fs _ bl) (fun hHeld=>?_);clear hK K
 try simp only[ag,sA,sB,sC]
 refine htake 6 ((.func (.func 52) #[.map (aj u1.heap.size)] #[]:Value)) (hy:=?_) (h:=?_)
 · exact He
 try simp only[ag,sA,sB,sC]
 refine hcall 7 (fun K hK=>?_)
 go_simp
 refine(HC.c2 _ _ (show Below (w.alloc (.cells (dX x P) 36)).heap.size (w.alloc (.cells (dX x P) 36)) u1 by exact bl).size bl ((J8 (w:=u1) rfl).on bl)).mono ?_;exact aeZ
theorem oC (hK:vI) (x:dM) (P:lN) (w:ai) (hx:jS (Lo w.heap.size) w x P) (hz:W9 x):Calls ah 22 #[.agg (dX x P)] w (Gives (.int .i64 (AJ x)) w):=by
 obtain⟨n4,mF⟩:∃n:Nat,4=n:=⟨_,rfl⟩
 have FX:=far (w:=w) 36 (dX x P);have hb1:Below w.heap.size w (w.alloc (.cells (dX x P) 36)):=bl;rw[show AJ x=ic [fT (bs x.nm),abT x,ac2 x,JF x] by unfold AJ;simp only[ic,tH]];refine ahL x P w n4 (fun w=>by rw[Tryz.sizeOf36,mF]) _ _ _ _ ⟨fun W hW=>?_,fun W b hb hW hS=>?_,fun W hW=>?_,fun W hW=>?_,fun W hW=>?_⟩
 · exact Na.oC x.nm W hz.nm
 · exact(YQ (c:=P.Ej) (K:=fun _=>True) hb (rz.top b) (hx.on hb1).pa hz.pa 32 bU [] cz W ⟨hW,hS,trivial⟩).mono fun e W2 h=>⟨h.1,h.2.below⟩
 · exact ahE hK x.si P.zM P.yu P.Cc W (hx.on hW).si hz.si
 · exact ahz x P W (hx.on hW) hz.li
 · have q:=FX.out W hW;exact⟨q.get (QQ x P),q.get (QR x P),q.get (QT x P),q.cell.gJ mF⟩
end Md
namespace Md
open Go.ChangeShapes Go.WideShapes Go.ChangeAt Go.RowKit Go.Joins Go.Deep
open Sm (eT)
structure Fit (x:dM):Prop where
 z:W9 x
 n:∀y∈x.si,Qk y
 c:∀y∈x.si,∀r∈y.ro,eT r.bo<=4000000
end Md
namespace Ps
open Ps.P (rt fl bd acc see len)
open Lx (Tk)
open Md (Val dx ko j_ eZ fD jf Lw iY cZ dM Bv Lv Qk Fit names)
structure QL {α:Type} (P:α->Nat->Prop) (l:List α) (d:Nat):Prop where
 all:∀y∈l,P y d
 len:l.length<=d
theorem QL.nil {α:Type} {P:α->Nat->Prop} {d:Nat}:QL P [] d:=⟨fun y hy=>(by cases hy),Nat.zero_le _⟩
theorem QL.le {α:Type} {P:α->Nat->Prop} (hm:∀x a b,P x a->a<=b->P x b) {l:List α} {d c:Nat} (h:QL P l d) (hd:d<=c):QL P l c:=⟨fun y hy=>hm _ _ _ (h.all y hy) hd,ae h.len hd⟩
theorem jQ {p:Prop} (h:p:=by omega):p:=h
theorem QL.snoc {α:Type} {P:α->Nat->Prop} (hm:∀x a b,P x a->a<=b->P x b) {l:List α} {y:α} {d c k:Nat} (h:QL P l d) (hy:P y c) (hk:d+(1+c)<=k):QL P (l++[y]) k:=by
 refine⟨fun z hz=>?_,by have:=h.len;simp;omega⟩;rcases List.mem_append.1 hz with hz|hz
 · exact hm _ _ _ (h.all z hz) jQ
 · rw[List.mem_singleton] at hz;subst hz;exact hm _ _ _ hy jQ
def sT (s:ByteArray) (d:Nat):Prop:=s.size<=20000
def Uk (x:Val) (d:Nat):Prop:=x.nm.size<=20000
def acG (x:dx) (d:Nat):Prop:=x.nm.size<=20000
def acM (x:ko) (d:Nat):Prop:=x.nm.size<=20000
def acB (x:j_) (d:Nat):Prop:=x.nm.size<=20000
def acJ (x:jf) (d:Nat):Prop:=True
def sLw (x:Md.Lw) (d:Nat):Prop:=x.nm.size<=20000
def acD (x:iY) (d:Nat):Prop:=x.fr.size<=20000/\x.tt.size<=20000
def aeW (x:eZ) (d:Nat):Prop:=1<=d/\x.nm.size<=20000
structure A_ (x:fD) (d:Nat):Prop where
 nm:x.nm.size<=20000
 fl:∀f∈x.ps++x.ls,f.nm.size<=20000
 ln:(x.ps++x.ls).length<=d
 bo:nO x.bo d
theorem A_.le (x:fD) (a b:Nat) (h:A_ x a) (hb:a<=b):A_ x b:=⟨h.nm,h.fl,ae h.ln hb,h.bo.le hb⟩
structure ky (x:cZ) (d:Nat):Prop where
 nm:x.nm.size<=20000
 va:QL Uk x.va d
 rs:QL acG x.rs d
 st:QL acM x.st d
 be:QL acB x.be d
 qu:QL sT x.qu d
 sm:QL sT x.sm d
 ta:QL sT x.ta d
 le:QL sT x.le d
 co:QL sT x.co d
 ro:QL A_ x.ro d
 ss:QL acJ x.ss d
 la:QL sLw x.la d
theorem ky.up (x:cZ) (a b:Nat) (h:ky x a) (hb:a<=b):ky x b:=⟨h.nm,h.va.le (fun _ _ _ h _=>h) hb,h.rs.le (fun _ _ _ h _=>h) hb,h.st.le (fun _ _ _ h _=>h) hb,h.be.le (fun _ _ _ h _=>h) hb,h.qu.le (fun _ _ _ h _=>h) hb,h.sm.le (fun _ _ _ h _=>h) hb,h.ta.le (fun _ _ _ h _=>h) hb,h.le.le (fun _ _ _ h _=>h) hb,h.co.le (fun _ _ _ h _=>h) hb,h.ro.le A_.le hb,h.ss.le (fun _ _ _ h _=>h) hb,h.la.le (fun _ _ _ h _=>h) hb⟩
structure pO (x:dM) (d:Nat):Prop where
 nm:x.nm.size<=20000
 pa:QL Uk x.pa d
 si:QL ky x.si d
 li:QL acD x.li d
theorem pO.up (x:dM) (a b:Nat) (h:pO x a) (hb:a<=b):pO x b:=⟨h.nm,h.pa.le (fun _ _ _ h _=>h) hb,h.si.le ky.up hb,h.li.le (fun _ _ _ h _=>h) hb⟩
theorem Dy {α:Type} {n:Nat} {m:P α} (h:Dn n m):dh (fun _ d=>n<=d) m:=⟨fun {t u x} g e=>by have h1:=h.out g e;exact⟨h1.1,t.length-u.length,by omega,by omega⟩⟩
theorem Zh:dh (fun _ d=>1<=d) typ:=Dy RA
theorem Dz:dh sT xW:=.bd lT fun s a ha=>.bd rG fun _ b hb=>.rt ha.2
theorem Zi:dh Uk val:=.bd lT fun s a ha=>.bd Zh fun y b hb=>.bd (lD bS) fun _ c hc=>.bd (Q':=fun _ _=>True) (.iff (RJ.imp fun _ _ _=>trivial) (YX.imp fun _ _ _=>trivial)) fun n d hn=>.bd rG fun _ k hk=>.rt ha.2
theorem YW:dh aeW DI:=.bd lT fun s a ha=>.bd Zh fun y b hb=>.rt ⟨by omega,ha.2⟩
theorem ajg:dh acG qQ:=.bd lT fun s a ha=>.bd oF fun n b hb=>.bd (Dy YC) fun h c hc=>.bd (Dy Yu) fun f d hd=>.bd rG fun _ k hk=>.rt ha.2
theorem ajj:dh acM Oi:=.bd lT fun s a ha=>.bd oF fun n b hb=>.bd (Dy Yz) fun p c hc=>.bd rG fun _ k hk=>.rt ha.2
theorem ai8:dh acB blt:=.bd lT fun s a ha=>.bd oF fun n b hb=>.bd oF fun p c hc=>.bd rG fun _ k hk=>.rt ha.2
theorem YY:∀n l k,(∀f∈l,f.nm.size<=20000)->l.length<=k->dh (fun x d=>(∀f∈x,f.nm.size<=20000)/\x.length<=k+d) (DZ n l)
 | 0,_,_,_,_=>.fl
 | n+1,l,k,h,hk=>.acc bS (.bd YW fun x a ha=>.bd rG fun _ b hb=>(YY n (l++[x]) (k+a) (fun f hf=>by
  rcases List.mem_append.1 hf with hf|hf
  · exact h f hf
  · rw[List.mem_singleton] at hf;subst hf;exact ha.2) (by have:=ha.1;simp;omega)).imp fun y c hy=>⟨hy.1,by omega⟩) (.rt ⟨h,by omega⟩)
theorem ajf:dh A_ NR:=.bd lT fun s a ha=>.bd (YZ (Q:=aeW) (fun x a b h hb=>⟨ae h.1 hb,h.2⟩) (fun x d h=>h.1) YW) fun ps b hb=>.bd rG fun _ c hc=>.bd (YY FU [] 0 (fun f hf=>by cases hf) (Nat.le_refl _)) fun ls d hd=>.bd Zf fun bo e he=>.bd (lD bS) fun _ k hk=>.bd rG fun _ j hj=>
 .rt ⟨ha.2,fun f hf=>by
  rcases List.mem_append.1 hf with hf|hf
  · exact(hb.1 f hf).2
  · exact hd.1 f hf,by have h1:=hb.2;have h2:=hd.2;show(ps++ls).length<=_;rw[List.length_append];omega,he.le jQ⟩
theorem aji:dh acJ Oh:=(Dy YF).imp fun _ _ _=>trivial
theorem ajc:dh sLw law:=.bd lT fun s a ha=>.bd (lD bS) fun _ b hb=>.bd (Q':=fun _ _=>True) (.see (.rt trivial) (.bd (Dy II) fun x c hc=>.rt trivial)) fun l c hc=>.bd (Dy (Rv FU l)) fun ts d hd=>.bd YX fun n e he=>.bd rG fun _ k hk=>.rt ha.2
theorem ajd:dh acD TA:=.bd lT fun s a ha=>.bd lT fun f b hb=>.bd oF fun n c hc=>.bd rG fun _ k hk=>.rt ⟨ha.2,hb.2⟩
theorem YU {x:cZ} {d:Nat} (h:ky x d):dh (fun y c=>ky y (d+c)) (FD x):=by
 have U:∀c,ky x (d+c):=fun c=>ky.up _ _ _ h jQ;have m1:∀{α:Type} {P:α->Prop} (x:α) (a b:Nat),P x->a<=b->P x:=fun x a b h _=>h;exact
 .acc bS (.bd Zi fun y c hy=>.rt { U (1+(c+0)) with va:=h.va.snoc (fun _ _ _ h _=>h) hy jQ }) <|
 .acc bS (.bd ajg fun y c hy=>.rt { U (1+(c+0)) with rs:=h.rs.snoc (fun _ _ _ h _=>h) hy jQ }) <|
 .acc bS (.bd ajj fun y c hy=>.rt { U (1+(c+0)) with st:=h.st.snoc (fun _ _ _ h _=>h) hy jQ }) <|
 .acc bS (.bd ai8 fun y c hy=>.rt { U (1+(c+0)) with be:=h.be.snoc (fun _ _ _ h _=>h) hy jQ }) <|
 .acc bS (.bd Dz fun y c hy=>.rt { U (1+(c+0)) with qu:=h.qu.snoc (fun _ _ _ h _=>h) hy jQ }) <|
 .acc bS (.bd Dz fun y c hy=>.rt { U (1+(c+0)) with sm:=h.sm.snoc (fun _ _ _ h _=>h) hy jQ }) <|
 .acc bS (.bd Dz fun y c hy=>.rt { U (1+(c+0)) with ta:=h.ta.snoc (fun _ _ _ h _=>h) hy jQ }) <|
 .acc bS (.bd Dz fun y c hy=>.rt { U (1+(c+0)) with le:=h.le.snoc (fun _ _ _ h _=>h) hy jQ }) <|
 .acc bS (.bd Dz fun y c hy=>.rt { U (1+(c+0)) with co:=h.co.snoc (fun _ _ _ h _=>h) hy jQ }) <|
 .acc bS (.bd ajf fun y c hy=>.rt { U (1+(c+0)) with ro:=h.ro.snoc A_.le hy jQ }) <|
 .acc bS (.bd aji fun y c hy=>.rt { U (1+(c+0)) with ss:=h.ss.snoc (fun _ _ _ h _=>h) hy jQ }) <|
 .acc bS (.bd ajc fun y c hy=>.rt { U (1+(c+0)) with la:=h.la.snoc (fun _ _ _ h _=>h) hy jQ }) <|
 .fl
theorem ac1 {s:ByteArray} {d:Nat} (h:s.size<=20000):ky (Cf s) d:=⟨h,.nil,.nil,.nil,.nil,.nil,.nil,.nil,.nil,.nil,.nil,.nil,.nil⟩
theorem Zd:∀n x k,ky x k->dh (fun y d=>ky y (k+d)) (zL n x)
 | 0,_,_,_=>.fl
 | n+1,x,k,h=>.acc bS (.rt (ky.up _ _ _ h jQ)) (.bd (YU h) fun y c hy=>(Zd n y (k+c) hy).imp fun z d hz=>ky.up _ _ _ hz jQ)
theorem ajh:dh ky sit:=.bd Dz fun s a ha=>.bd (Zd FU (Cf s) 0 (ac1 ha)) fun x b hb=>.bd rG fun _ c hc=>.rt (ky.up _ _ _ hb jQ)
theorem Zc {x:dM} {d:Nat} (h:pO x d):dh (fun y c=>pO y (d+c)) (prt x):=by
 have U:∀c,pO x (d+c):=fun c=>pO.up _ _ _ h jQ;exact
 .acc bS (.bd Zi fun y c hy=>.rt { U (1+(c+0)) with pa:=h.pa.snoc (fun _ _ _ h _=>h) hy jQ }) <|
 .acc bS (.bd ajd fun y c hy=>.rt { U (1+(c+0)) with li:=h.li.snoc (fun _ _ _ h _=>h) hy jQ }) <|
 .acc bS (.bd ajh fun y c hy=>.rt { U (1+(c+0)) with si:=h.si.snoc ky.up hy jQ }) <|
 .fl
theorem Y3:∀n x k,pO x k->dh (fun y d=>pO y (k+d)) (Ed n x)
 | 0,_,_,_=>.fl
 | n+1,x,k,h=>.acc bS (.rt (pO.up _ _ _ h jQ)) (.bd (Zc h) fun y c hy=>(Y3 n y (k+c) hy).imp fun z d hz=>pO.up _ _ _ hz jQ)
theorem A_.z {x:fD} {d:Nat} (h:A_ x d) (hd:d<=30000):Lv x:=⟨ae h.nm bS,fun f hf=>ae (h.fl f hf) bS,ae h.ln jQ,h.bo.Ck jQ⟩
theorem ky.z {x:cZ} {d:Nat} (h:ky x d) (hd:d<=30000):Bv x where
 va:=fun y hy=>ae (h.va.all y hy) bS
 rs:=fun y hy=>ae (h.rs.all y hy) bS
 st:=fun y hy=>ae (h.st.all y hy) bS
 be:=fun y hy=>ae (h.be.all y hy) bS
 qu:=fun y hy=>ae (h.qu.all y hy) bS
 sm:=fun y hy=>ae (h.sm.all y hy) bS
 ta:=fun y hy=>ae (h.ta.all y hy) bS
 le:=fun y hy=>ae (h.le.all y hy) bS
 co:=fun y hy=>ae (h.co.all y hy) bS
 ro:=fun y hy=>(h.ro.all y hy).z hd
 la:=fun y hy=>ae (h.la.all y hy) bS
 nm:=ae h.nm bS
theorem ky.nw {x:cZ} {d:Nat} (h:ky x d) (hd:d<=30000):Qk x where
 nz:=⟨by have:=h.va.len;omega,by have:=h.rs.len;omega,by have:=h.st.len;omega,by have:=h.be.len;omega,by have:=h.ro.len;omega⟩
 nm:=fun l hl=>by
  simp only[names,List.mem_cons,List.mem_nil_iff,or_false] at hl;rcases hl with rfl|rfl|rfl|rfl|rfl|rfl|rfl|rfl|rfl|rfl
  · rw[List.length_map];have:=h.va.len;omega
  · rw[List.length_map];have:=h.rs.len;omega
  · rw[List.length_map];have:=h.st.len;omega
  · rw[List.length_map];have:=h.be.len;omega
  · have:=h.qu.len;omega
  · have:=h.sm.len;omega
  · have:=h.ta.len;omega
  · have:=h.le.len;omega
  · have:=h.co.len;omega
  · rw[List.length_map];have:=h.ro.len;omega
 ss:=by have:=h.ss.len;omega
 la:=by have:=h.la.len;omega
theorem pO.fit {x:dM} {d:Nat} (h:pO x d) (hd:d<=30000):Fit x where
 z:=⟨ae h.nm bS,fun y hy=>ae (h.pa.all y hy) bS,fun y hy=>(h.si.all y hy).z hd,fun l hl=>⟨ae (h.li.all l hl).1 bS,ae (h.li.all l hl).2 bS⟩⟩
 n:=fun y hy=>(h.si.all y hy).nw hd
 c:=fun y hy r hr=>by have:=(((h.si.all y hy).ro.all r hr).bo).1;omega
theorem alH {t u:List Tk} {x:dM} (g:Gd t) (hl:t.length<=30000) (h:run JH t=.ok x u):Fit x:=by
 unfold JH at h
 cases h1:run (zy Jl) t with
 | no v=>rw[eU h1] at h;cases h
 | ok s t1=>
  obtain⟨g1,d1,e1,q1⟩:=(IM (s:=Jl) bS).out g h1;rw[dN h1] at h
  cases h2:run fM t1 with
  | no v=>rw[eU h2] at h;cases h
  | ok a t2=>
   obtain⟨g2,d2,e2,q2⟩:=rG.out g1 h2;rw[dN h2] at h
   cases h3:run (Ed FU ⟨s,[],[],[]⟩) t2 with
   | no v=>rw[eU h3] at h;cases h
   | ok y t3=>
    obtain⟨g3,d3,e3,q3⟩:=(Y3 FU ⟨s,[],[],[]⟩ 0 ⟨q1.2,.nil,.nil,.nil⟩).out g2 h3;rw[dN h3] at h;have e:x=y:=by
     cases h4:run fM t3 with
     | no v=>rw[eU h4] at h;cases h
     | ok b t4=>
      rw[dN h4] at h
      cases h5:run pz t4 with
      | no v=>rw[eU h5] at h;cases h
      | ok c t5=>rw[dN h5,jX] at h;cases h;rfl
    subst e;exact q3.fit jQ
end Ps
end Go.Proofs.YthnillhnjhalmaaGreatDoor
