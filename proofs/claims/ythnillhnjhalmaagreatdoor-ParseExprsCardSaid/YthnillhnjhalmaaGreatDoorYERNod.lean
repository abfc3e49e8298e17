/-
  Parts of this proof: The contract of the reference's check of a node . The reference's check of a node, by forms.
-/
import Derived.Test.YthnillhnjhalmaaGreatDoorYLxAcc
open Go.Proofs.Tryz renaming prog->ae
open Go.Lib renaming hid->af
open Go renaming World->ag,Calls->ah
set_option linter.unusedVariables false
set_option maxRecDepth 100000
set_option maxHeartbeats 4000000
open Go.Lib (hid)
namespace Go.Proofs.YthnillhnjhalmaaGreatDoor
namespace Ex
open Go.RowKit
open Na (bs fT)
theorem pg {c:Bool} {o n:Int} {s:ByteArray} {l:List Ex}:bad c (pre (.mk o s n l))=if nd c o (bs s) n l.length=0 then bad c (fA l) else nd c o (bs s) n l.length:=by rw[NJ,bad];rfl
theorem Io {c:Bool} {l:List Ex} {k:Nat} {x:Ex} (hx:l[k]?=some x) (h:bad c (fA (l.take k))=0):bad c (fA (l.take (k+1)))=bad c (pre x):=by rw[TR hx,QD h]
theorem LP {c:Bool} {l:List Ex} {k:Nat} {x:Ex} (hx:l[k]?=some x) (h:bad c (fA (l.take k))=0) (g:¬bad c (pre x)=0):bad c (fA l)=bad c (pre x):=by
 have h1:=Io hx h;have h2:=NI (l.take (k+1)) (l.drop (k+1));rw[List.take_append_drop] at h2;rw[h2,QC (by rw[h1];exact g),h1]
theorem Ap {s:ByteArray} (h:¬bs s=[]):s.toList.isEmpty=false:=by
 exact afp
theorem Aq {s:ByteArray} (h:bs s=[]):s.toList.isEmpty=true:=by
 rw[Lib.toList_data]
 show(bs s).isEmpty=true
 rw[h];rfl
theorem LW {w:ag} {g:Nat} {o:Int} {s:ByteArray} {n:Int} {p:Option Addr} {m c:Nat} (h:dW w g o s n p m c) (k:Nat):dW (w.drewN k) g o s n p m c:=h
theorem oZ {o x:Int} (h:gT o=x) (w:ag):ah ae 128 #[.int .i64 o] w fun e w'=>e=.returned (.int .i64 x)/\w'=w:=by rw[← h];exact age o w
theorem pK {o:Int} {x:Bool} (h:obj o=x) (w:ag):ah ae 129 #[.int .i64 o] w fun e w'=>e=.returned (.bool x)/\w'=w:=by rw[← h];exact amh o w
theorem ab9 {s:ByteArray} {x:Int} (h:fT (bs s)=x) (hs:s.size<=9223372036854775807) (w:ag):ah ae 132 #[.string s] w (Gives (.int .i64 x) w):=by rw[← h];exact Na.NM s w hs
theorem TH {o x:Int} (h:most o=x) (w:ag):ah ae 131 #[.int .i64 o] w fun e w'=>e=.returned (.int .i64 x)/\w'=w:=by rw[← h];exact alL o w
theorem NQ {n:Int} {x:Bool} (h:AA n=x) (w:ag):ah ae 130 #[.int .i64 n] w fun e w'=>e=.returned (.bool x)/\w'=w:=by rw[← h];exact anK n w
section
variable {c:Bool} {o n:Int} {s:List UInt8} {m:Nat}
theorem Ns (h:rA c o s n m=true):nd c o s n m=1:=by unfold nd;rw[if_pos h]
theorem Gm (h:known c o=false):nd c o s n m=1:=Ns (by unfold rA;rw[h];simp)
theorem atP {p:Prop} (h:p:=by unfold rA;rw[h,decide_eq_false g];simp):p:=h
theorem AP (h:named c o=false) (g:¬s=[]):nd c o s n m=1:=Ns atP
theorem Nt (h:numbered c o=false) (g:¬n=0):nd c o s n m=1:=Ns atP
theorem xS {A:Int} (h:gT o=A) (g:¬(m:Int)=A):nd c o s n m=1:=Ns atP
theorem xR {a b:Bool} {A:Int} (h:known c o=true) (hn:named c o=a) (hb:numbered c o=b) (hA:gT o=A) (h1:a=true∨s=[]) (h2:b=true∨n=0) (h3:(m:Int)=A):nd c o s n m=if fG c o n then 2 else if a then fT s else 0:=by
 have hf:rA c o s n m=false:=by
  unfold rA;rw[h,hn,hb,hA,decide_eq_true h3];rcases h1 with h1|h1 <;> rcases h2 with h2|h2 <;> simp[h1,h2]
 unfold nd;rw[if_neg (by rw[hf];decide),hn]
end
def nL (cc:Bool) (l:List Ex):Prop:=∀x∈l,∀(p:Option Addr) (m c:Nat) (w:ag),In w x p m->Sz x->ah ae 79 #[.agg #[.int .i64 x.o,.string x.s,.int .i64 x.n,.slice p m c],.bool cc] w (Gives (.int .i64 (bad cc (pre x))) w)
end Ex
namespace Ex
open Go.RowKit
open Na (bs)
set_option linter.unusedSimpArgs false
theorem auo {p:Prop} (h:p:=by
 exact CG
 ):p:=h
theorem aup {p:Prop} (h:p:=by
 rw[hfair.trans (show _=(2:Int) by rw[hR];rfl),if_neg bS];clear hkn hnm hct hnb hA hB hfair hs0 hR hv;go_enter Tryz.func79,Tryz.ntmps79;go_wp2_with (first|(go_at_call 128;refine(HA.out _).mono ?_;rintro e w1 ⟨rfl,rfl⟩)|(go_at_call 129;refine(HB.out _).mono ?_;rintro e w1 ⟨rfl,rfl⟩))
 go_quiet ((go_at_call 130;exact Calls.quiet_of_same (EZ.out _)))
 exact dS
 ):p:=h
theorem atz {p:Prop} (h:p:=by
 rw[HV.out,if_neg bS];clear hkn hnm hct hnb hA hB hs0;exact auo
 ):p:=h
theorem anV (l:List Ex) (ih:nL false l) (s:ByteArray) (n:Int) (p:Option Addr) (m c:Nat) (w:ag) (h:In w (.mk (1) s n l) p m) (hs:Sz (.mk (1) s n l)):ah ae 79 #[.agg #[.int .i64 (1),.string s,.int .i64 n,.slice p m c],.bool false] w (Gives (.int .i64 (bad false (pre (.mk (1) s n l)))) w):=by
 have HH:=af h;have HI:=af ih;obtain⟨hl,hm⟩:=h.len;have HL:=af hl;have HS:=af hs;have hsz:=hs.self;rw[pg,hl];clear ih h hl hs;have hA:gT (1)=0:=rfl;have hB:obj (1)=false:=rfl;have HA:=af (fun W=>oZ hA W);have HB:=af (fun W=>pK hB W);have hkn:known false (1)=true:=rfl;have hnm:named false (1)=false:=rfl;have hct:counted false (1)=false:=rfl;have hnb:numbered false (1)=true:=rfl;by_cases hs0:bs s=[]
 rotate_left
 · have e0:=Ap hs0;have HV:=af (show nd false (1) (bs s) n m=1 from AP hnm hs0);exact atz
 have e0:=Aq hs0;by_cases fH:(m:Int)=0;rotate_left
 · have g0:((m:Int)==0)=false:=beq_eq_false_iff_ne.2 fH;have g1:((m:Int) != 0)=true:=bne_iff_ne.2 fH;have HV:=af (show nd false (1) (bs s) n m=1 from xS hA fH);exact atz
 obtain rfl:m=0:=by omega
 have hfair:=xR (s:=bs s) (n:=n) (m:=0) hkn hnm hnb hA (.inr hs0) (.inl rfl) rfl
 cases hv:AA n with
 | true=>
  have EZ:=af (fun W=>NQ hv W);have hR:fG false (1) n=false:=by unfold fG;rw[hct,hv];rfl
  rw[hfair.trans (show _=(0:Int) by rw[hR];rfl),if_pos rfl];clear hkn hnm hct hnb hA hB hfair hs0 hR hv;go_enter Tryz.func79,Tryz.ntmps79;go_wp2_with (first|(go_at_call 128;refine(HA.out _).mono ?_;rintro e w1 ⟨rfl,rfl⟩)|(go_at_call 129;refine(HB.out _).mono ?_;rintro e w1 ⟨rfl,rfl⟩))
  go_quiet ((go_at_call 130;exact Calls.quiet_of_same (EZ.out _)))
  go_wp2_with fail;go_loopw [10] (fun i wr=>∃k:Nat,k<=0/\Hid (bad false (fA (l.take k))=0)/\i=.int .i64 (k:Nat)/\Hid (Below w.heap.size w wr)/\Hid (dW wr w.heap.size (1) s n p 0 c)) (fun i _=>0-(intOf i).toNat)
  case atStart=>exact⟨0,Nat.zero_le _,af y7,rfl,af bl,af gK⟩
  case round=>
   exact Wq
 | false=>
  have EZ:=af (fun W=>NQ hv W);have hR:fG false (1) n=true:=by unfold fG;rw[hct,hv];rfl
  exact aup
theorem anW (l:List Ex) (ih:nL true l) (s:ByteArray) (n:Int) (p:Option Addr) (m c:Nat) (w:ag) (h:In w (.mk (1) s n l) p m) (hs:Sz (.mk (1) s n l)):ah ae 79 #[.agg #[.int .i64 (1),.string s,.int .i64 n,.slice p m c],.bool true] w (Gives (.int .i64 (bad true (pre (.mk (1) s n l)))) w):=by
 have HH:=af h;have HI:=af ih;obtain⟨hl,hm⟩:=h.len;have HL:=af hl;have HS:=af hs;have hsz:=hs.self;rw[pg,hl];clear ih h hl hs;have hA:gT (1)=0:=rfl;have hB:obj (1)=false:=rfl;have HA:=af (fun W=>oZ hA W);have HB:=af (fun W=>pK hB W);have hkn:known true (1)=true:=rfl;have hnm:named true (1)=false:=rfl;have hct:counted true (1)=false:=rfl;have hnb:numbered true (1)=true:=rfl;by_cases hs0:bs s=[]
 rotate_left
 · have e0:=Ap hs0;have HV:=af (show nd true (1) (bs s) n m=1 from AP hnm hs0);exact atz
 have e0:=Aq hs0;by_cases fH:(m:Int)=0;rotate_left
 · have g0:((m:Int)==0)=false:=beq_eq_false_iff_ne.2 fH;have g1:((m:Int) != 0)=true:=bne_iff_ne.2 fH;have HV:=af (show nd true (1) (bs s) n m=1 from xS hA fH);exact atz
 obtain rfl:m=0:=by omega
 have hfair:=xR (s:=bs s) (n:=n) (m:=0) hkn hnm hnb hA (.inr hs0) (.inl rfl) rfl
 cases hv:AA n with
 | true=>
  have EZ:=af (fun W=>NQ hv W);have hR:fG true (1) n=false:=by unfold fG;rw[hct,hv];rfl
  rw[hfair.trans (show _=(0:Int) by rw[hR];rfl),if_pos rfl];clear hkn hnm hct hnb hA hB hfair hs0 hR hv;go_enter Tryz.func79,Tryz.ntmps79;go_wp2_with (first|(go_at_call 128;refine(HA.out _).mono ?_;rintro e w1 ⟨rfl,rfl⟩)|(go_at_call 129;refine(HB.out _).mono ?_;rintro e w1 ⟨rfl,rfl⟩))
  go_quiet ((go_at_call 130;exact Calls.quiet_of_same (EZ.out _)))
  go_wp2_with fail;go_loopw [10] (fun i wr=>∃k:Nat,k<=0/\Hid (bad true (fA (l.take k))=0)/\i=.int .i64 (k:Nat)/\Hid (Below w.heap.size w wr)/\Hid (dW wr w.heap.size (1) s n p 0 c)) (fun i _=>0-(intOf i).toNat)
  case atStart=>exact⟨0,Nat.zero_le _,af y7,rfl,af bl,af gK⟩
  case round=>
   exact Ws
 | false=>
  have EZ:=af (fun W=>NQ hv W);have hR:fG true (1) n=true:=by unfold fG;rw[hct,hv];rfl
  exact aup
theorem aun {p:Prop} (h:p:=by
 have HH:=af h;have HI:=af ih;obtain⟨hl,hm⟩:=h.len;have HL:=af hl;have HS:=af hs;have hsz:=hs.self;rw[pg,hl];clear ih h hl hs;obtain⟨A,hA⟩:∃A,gT o=A:=⟨_,rfl⟩
 have hA1:A<0:=by unfold gT at hA;rw[if_pos bU] at hA;omega
 have hB:obj o=false:=by unfold obj;simp;omega
 have HA:=af (fun W=>oZ hA W);have HB:=af (fun W=>pK hB W);have t1:(o==1)=false:=beq_eq_false_iff_ne.2 bU;have t2:(o==2)=false:=beq_eq_false_iff_ne.2 bU;have t3:(o==3)=false:=beq_eq_false_iff_ne.2 bU;have t25:(o==25)=false:=beq_eq_false_iff_ne.2 bU;have t26:(o==26)=false:=beq_eq_false_iff_ne.2 bU;have u3:(o != 3)=true:=bne_iff_ne.2 bU;have v3:¬o=3:=by omega
 have hkn:known false o=false:=by unfold known;rw[hA];rw[decide_eq_false bU];rfl
 have HV:=af (show nd false o (bs s) n m=1 from Gm hkn);rw[HV.out,if_neg bS];clear hkn hA hB;exact auo
 ):p:=h
theorem anP (l:List Ex) (ih:nL false l) (o:Int) (h1:o<1) (s:ByteArray) (n:Int) (p:Option Addr) (m c:Nat) (w:ag) (h:In w (.mk o s n l) p m) (hs:Sz (.mk o s n l)):ah ae 79 #[.agg #[.int .i64 (o),.string s,.int .i64 n,.slice p m c],.bool false] w (Gives (.int .i64 (bad false (pre (.mk o s n l)))) w):=by
 exact aun
theorem anN (l:List Ex) (ih:nL false l) (o:Int) (MX:26<o) (s:ByteArray) (n:Int) (p:Option Addr) (m c:Nat) (w:ag) (h:In w (.mk o s n l) p m) (hs:Sz (.mk o s n l)):ah ae 79 #[.agg #[.int .i64 (o),.string s,.int .i64 n,.slice p m c],.bool false] w (Gives (.int .i64 (bad false (pre (.mk o s n l)))) w):=by
 exact aun
end Ex
namespace Ex
open Go.RowKit
open Na (bs)
set_option linter.unusedSimpArgs false
theorem auq {p:Prop} (h:p:=by
 go_enter Tryz.func79,Tryz.ntmps79;go_wp2_with (first|(go_at_call 128;refine(HA.out _).mono ?_;rintro e w1 ⟨rfl,rfl⟩)|(go_at_call 129;refine(HB.out _).mono ?_;rintro e w1 ⟨rfl,rfl⟩))
 go_quiet (fail)
 go_wp2_with fail;go_loopw [10] (fun i wr=>∃k:Nat,k<=0/\Hid (bad false (fA (l.take k))=0)/\i=.int .i64 (k:Nat)/\Hid (Below w.heap.size w wr)/\Hid (dW wr w.heap.size o s n p 0 c)) (fun i _=>0-(intOf i).toNat)
 case atStart=>exact⟨0,Nat.zero_le _,af y7,rfl,af bl,af gK⟩
 case round=>
  exact Wq
 ):p:=h
theorem aur {p:Prop} (h:p:=by
 rw[HV.out,if_neg bS];clear hkn hnm hct hnb hA hB hs0 h2;exact CG
 ):p:=h
theorem an1 (l:List Ex) (ih:nL false l) (o:Int) (h2:o=2) (s:ByteArray) (n:Int) (p:Option Addr) (m c:Nat) (w:ag) (h:In w (.mk o s n l) p m) (hs:Sz (.mk o s n l)):ah ae 79 #[.agg #[.int .i64 o,.string s,.int .i64 n,.slice p m c],.bool false] w (Gives (.int .i64 (bad false (pre (.mk o s n l)))) w):=by
 have HH:=af h;have HI:=af ih;obtain⟨hl,hm⟩:=h.len;have HL:=af hl;have HS:=af hs;have hsz:=hs.self;rw[pg,hl];clear ih h hl hs;have hA:gT o=0:=by rw[h2];rfl
 have hB:obj o=false:=by rw[h2];rfl
 have t1:(o==1)=false:=by rw[h2];rfl
 have t2:(o==2)=true:=by rw[h2];rfl
 have t3:(o==3)=false:=by rw[h2];rfl
 have t25:(o==25)=false:=by rw[h2];rfl
 have t26:(o==26)=false:=by rw[h2];rfl
 have u3:(o != 3)=true:=by rw[h2];rfl
 have v3:¬o=3:=by omega
 have Cu:o<=24:=by omega
 have HA:=af (fun W=>oZ hA W);have HB:=af (fun W=>pK hB W);have hkn:known false o=true:=by rw[h2];rfl
 have hnm:named false o=false:=by rw[h2];rfl
 have hct:counted false o=false:=by rw[h2];rfl
 have hnb:numbered false o=true:=by rw[h2];rfl
 by_cases hs0:bs s=[]
 rotate_left
 · have e0:=Ap hs0;have HV:=af (show nd false o (bs s) n m=1 from AP hnm hs0);exact aur
 have e0:=Aq hs0;by_cases fH:(m:Int)=0;rotate_left
 · have g0:((m:Int)==0)=false:=beq_eq_false_iff_ne.2 fH;have g1:((m:Int) != 0)=true:=bne_iff_ne.2 fH;have HV:=af (show nd false o (bs s) n m=1 from xS hA fH);exact aur
 obtain rfl:m=0:=by omega
 have hfair:=xR (s:=bs s) (n:=n) (m:=0) hkn hnm hnb hA (.inr hs0) (.inl rfl) rfl;by_cases hn0:n=0
 · have f0:(n==0)=true:=beq_iff_eq.2 hn0;have f2:(n != 0)=false:=by simp[bne,f0]
   have hR:fG false o n=false:=by rw[h2,hn0];rfl
   rw[hfair.trans (show _=(0:Int) by rw[hR];rfl),if_pos rfl];clear hkn hnm hct hnb hA hB hfair hs0 hR h2 hn0;exact auq
 by_cases hn1:n=1
 · have f0:(n==0)=false:=beq_eq_false_iff_ne.2 hn0;have f1:(n==1)=true:=beq_iff_eq.2 hn1;have f2:(n != 0)=true:=by simp[bne,f0]
   have f3:(n != 1)=false:=by simp[bne,f1]
   have hR:fG false o n=false:=by rw[h2,hn1];rfl
   rw[hfair.trans (show _=(0:Int) by rw[hR];rfl),if_pos rfl];clear hkn hnm hct hnb hA hB hfair hs0 hR hn0 hn1 h2;exact auq
 have f0:(n==0)=false:=beq_eq_false_iff_ne.2 hn0;have f1:(n==1)=false:=beq_eq_false_iff_ne.2 hn1;have f2:(n != 0)=true:=by simp[bne,f0]
 have f3:(n != 1)=true:=by simp[bne,f1]
 have hR:fG false o n=true:=by rw[h2];unfold fG;simp[hn0,hn1]
 exact aft
end Ex
namespace Ex
open Go.RowKit
open Na (bs)
set_option linter.unusedSimpArgs false
theorem aus {p:Prop} (h:p:=by
 rw[HV.out,if_neg bS];clear hkn hA hB;exact CG
 ):p:=h
theorem anX (l:List Ex) (ih:nL false l) (s:ByteArray) (n:Int) (p:Option Addr) (m c:Nat) (w:ag) (h:In w (.mk (25) s n l) p m) (hs:Sz (.mk (25) s n l)):ah ae 79 #[.agg #[.int .i64 (25),.string s,.int .i64 n,.slice p m c],.bool false] w (Gives (.int .i64 (bad false (pre (.mk (25) s n l)))) w):=by
 have HH:=af h;have HI:=af ih;obtain⟨hl,hm⟩:=h.len;have HL:=af hl;have HS:=af hs;have hsz:=hs.self;rw[pg,hl];clear ih h hl hs;have hA:gT (25)=0:=rfl;have hB:obj (25)=false:=rfl;have HA:=af (fun W=>oZ hA W);have HB:=af (fun W=>pK hB W);have hkn:known false (25)=false:=rfl;have HV:=af (show nd false (25) (bs s) n m=1 from Gm hkn);exact aus
theorem an3 (l:List Ex) (ih:nL false l) (s:ByteArray) (n:Int) (p:Option Addr) (m c:Nat) (w:ag) (h:In w (.mk (26) s n l) p m) (hs:Sz (.mk (26) s n l)):ah ae 79 #[.agg #[.int .i64 (26),.string s,.int .i64 n,.slice p m c],.bool false] w (Gives (.int .i64 (bad false (pre (.mk (26) s n l)))) w):=by
 have HH:=af h;have HI:=af ih;obtain⟨hl,hm⟩:=h.len;have HL:=af hl;have HS:=af hs;have hsz:=hs.self;rw[pg,hl];clear ih h hl hs;have hA:gT (26)=0:=rfl;have hB:obj (26)=false:=rfl;have HA:=af (fun W=>oZ hA W);have HB:=af (fun W=>pK hB W);have hkn:known false (26)=false:=rfl;have HV:=af (show nd false (26) (bs s) n m=1 from Gm hkn);exact aus
end Ex
end Go.Proofs.YthnillhnjhalmaaGreatDoor
