/-
  Parts of this proof: The contracts of package dist's unused, checkLen. The contract of package dist's Check, at every d. Mathematics of statements. Mathematics of models. The reference's lists of names.
-/
import Derived.Test.YtbgodajefaahdaaGreatDoorYNuMath
import Derived.Test.YtbgodajefaahdaaGreatDoorYBase
import Derived.RangeFuncRecord
import Derived.Deep.MidRow
import Derived.Deep.WholeRow
open Option renaming none->X,some->af
open Go.Proofs.Tryz renaming prog->ae
open List renaming cons_append->ag
open Go renaming World->ah,Calls->ai,bodyPost_ret->ak
open Bool renaming and_eq_true->aj
open Nat renaming le_refl->au
set_option linter.unusedVariables false
open Go.Lib (hid)
namespace Go.Proofs.YtbgodajefaahdaaGreatDoor
namespace Di
open Go.RowKit
set_option maxHeartbeats 2000000
def six (w:ah) (b:Nat) (x0 x1 x2 x3 x4 x5:Value):Prop:=
 w.cell? ⟨b,0,X⟩=af x0/\w.cell? ⟨b,1,X⟩=af x1/\w.cell? ⟨b,2,X⟩=af x2/\w.cell? ⟨b,3,X⟩=af x3/\w.cell? ⟨b,4,X⟩=af x4/\w.cell? ⟨b,5,X⟩=af x5/\b<w.heap.size
def S6 (b:Nat) (x0 x1 x2 x3 x4 x5:Value) (w:ah):Prop:=
 w.cell? ⟨b,0,X⟩=af x0/\w.cell? ⟨b,1,X⟩=af x1/\w.cell? ⟨b,2,X⟩=af x2/\w.cell? ⟨b,3,X⟩=af x3/\w.cell? ⟨b,4,X⟩=af x4/\w.cell? ⟨b,5,X⟩=af x5
section
variable {w w2:ah} {b:Nat} {x0 x1 x2 x3 x4 x5:Value}
theorem six.call (h:six w b x0 x1 x2 x3 x4 x5) (hb:Below w.heap.size w w2):six w2 b x0 x1 x2 x3 x4 x5:=by
 obtain⟨h0,h1,h2,h3,h4,h5,h6⟩:=h;exact⟨(hb.cell (p:=⟨b,0,X⟩) h6).trans h0,(hb.cell (p:=⟨b,1,X⟩) h6).trans h1,(hb.cell (p:=⟨b,2,X⟩) h6).trans h2,(hb.cell (p:=⟨b,3,X⟩) h6).trans h3,
  (hb.cell (p:=⟨b,4,X⟩) h6).trans h4,(hb.cell (p:=⟨b,5,X⟩) h6).trans h5,Nat.lt_of_lt_of_le h6 hb.size⟩
theorem six.on (hb:Below w.heap.size w w2) (h:six w b x0 x1 x2 x3 x4 x5):six w2 b x0 x1 x2 x3 x4 x5:=h.call hb
theorem six.drew (h:six w b x0 x1 x2 x3 x4 x5):six w.drew b x0 x1 x2 x3 x4 x5:=h
theorem six.drewN (h:six w b x0 x1 x2 x3 x4 x5) (n:Nat):six (w.drewN n) b x0 x1 x2 x3 x4 x5:=h
theorem six.alloc {o:Obj} (h:six w b x0 x1 x2 x3 x4 x5):six (w.alloc o) b x0 x1 x2 x3 x4 x5:=h.call ((Below.refl _ _).alloc (au _) o)
theorem six.new {t:TypeId}:six (w.alloc (.cells #[x0,x1,x2,x3,x4,x5] t)) w.heap.size x0 x1 x2 x3 x4 x5:=by
 refine⟨?_,?_,?_,?_,?_,?_,?_⟩ <;> first|(go_simp;done)|(simp;done)|(simp;omega)
theorem six.keep (h:six w b x0 x1 x2 x3 x4 x5):w.cell? ⟨b,0,X⟩=af x0/\w.cell? ⟨b,1,X⟩=af x1/\w.cell? ⟨b,2,X⟩=af x2/\w.cell? ⟨b,3,X⟩=af x3/\w.cell? ⟨b,4,X⟩=af x4/\w.cell? ⟨b,5,X⟩=af x5:=
 ⟨h.1,h.2.1,h.2.2.1,h.2.2.2.1,h.2.2.2.2.1,h.2.2.2.2.2.1⟩
end
theorem LQ {p:Prop} (h:p:=by simp[results,Tryz.results138,go_sem, *]):p:=h
theorem asB (a b n:Int) (p:Option Addr) (lv c:Nat) (q:Option Addr) (lw f:Nat) (w:ah):ai ae 138 #[.agg #[.int .i64 1,.int .i64 a,.int .i64 b,.int .i64 n,.slice p lv c,.slice q lw f]] w (Gives (.agg #[.int .i64 1,.int .i64 0,.int .i64 b,.int .i64 n,.slice p lv c,.slice q lw f]) w):=by
 go_enter Tryz.func138,Tryz.ntmps138;go_wp2_with fail;exact ak (v:=.agg #[.int .i64 1,.int .i64 0,.int .i64 b,.int .i64 n,.slice p lv c,.slice q lw f]) LQ rfl ⟨rfl,bq⟩
theorem asC (a b n:Int) (p:Option Addr) (lv c:Nat) (q:Option Addr) (lw f:Nat) (w:ah):ai ae 138 #[.agg #[.int .i64 2,.int .i64 a,.int .i64 b,.int .i64 n,.slice p lv c,.slice q lw f]] w (Gives (.agg #[.int .i64 2,.int .i64 0,.int .i64 0,.int .i64 n,.slice p lv c,.slice q lw f]) w):=by
 go_enter Tryz.func138,Tryz.ntmps138;go_wp2_with fail;exact ak (v:=.agg #[.int .i64 2,.int .i64 0,.int .i64 0,.int .i64 n,.slice p lv c,.slice q lw f]) LQ rfl ⟨rfl,bq⟩
theorem asD (a b n:Int) (p:Option Addr) (lv c:Nat) (q:Option Addr) (lw f:Nat) (w:ah):ai ae 138 #[.agg #[.int .i64 3,.int .i64 a,.int .i64 b,.int .i64 n,.slice p lv c,.slice q lw f]] w (Gives (.agg #[.int .i64 3,.int .i64 a,.int .i64 b,.int .i64 n,.slice X 0 0,.slice X 0 0]) w):=by
 go_enter Tryz.func138,Tryz.ntmps138;go_wp2_with fail;exact ak (v:=.agg #[.int .i64 3,.int .i64 a,.int .i64 b,.int .i64 n,.slice X 0 0,.slice X 0 0]) LQ rfl ⟨rfl,bq⟩
theorem asE (a b n:Int) (p:Option Addr) (lv c:Nat) (q:Option Addr) (lw f:Nat) (w:ah):ai ae 138 #[.agg #[.int .i64 4,.int .i64 a,.int .i64 b,.int .i64 n,.slice p lv c,.slice q lw f]] w (Gives (.agg #[.int .i64 4,.int .i64 0,.int .i64 0,.int .i64 0,.slice p lv c,.slice q lw f]) w):=by
 go_enter Tryz.func138,Tryz.ntmps138;go_wp2_with fail;exact ak (v:=.agg #[.int .i64 4,.int .i64 0,.int .i64 0,.int .i64 0,.slice p lv c,.slice q lw f]) LQ rfl ⟨rfl,bq⟩
theorem asF (a b n:Int) (p:Option Addr) (lv c:Nat) (q:Option Addr) (lw f:Nat) (w:ah):ai ae 138 #[.agg #[.int .i64 5,.int .i64 a,.int .i64 b,.int .i64 n,.slice p lv c,.slice q lw f]] w (Gives (.agg #[.int .i64 5,.int .i64 0,.int .i64 0,.int .i64 n,.slice p lv c,.slice q lw f]) w):=by
 go_enter Tryz.func138,Tryz.ntmps138;go_wp2_with fail;exact ak (v:=.agg #[.int .i64 5,.int .i64 0,.int .i64 0,.int .i64 n,.slice p lv c,.slice q lw f]) LQ rfl ⟨rfl,bq⟩
def Ke (n m:Nat):Int:=if n=m then (if n=0 then 7 else if 20<n then 6 else 0) else 8
theorem Qs {p:Prop} (h:p:=by
 go_enter Tryz.func139,Tryz.ntmps139;go_wp2_with fail;go_ret;exact⟨rfl,rfl⟩
 ):p:=h
theorem Kg (n m:Nat) (w:ah):ai ae 139 #[.int .i64 n,.int .i64 m] w fun e w'=>e=.returned (.int .i64 (Ke n m))/\w=w':=by
 unfold Ke;by_cases h:n=m
 · subst h;rw[if_pos rfl];by_cases h0:n=0
   · subst h0;rw[if_pos rfl];exact Qs
   · rw[if_neg h0];have h1:((n:Int)==0)=false:=by rw[beq_eq_false_iff_ne];omega
     by_cases h2:20<n
     · rw[if_pos h2];have h3:(20:Int)<(n:Int):=by omega
       clear h0;exact Qs
     · rw[if_neg h2];have h3:(n:Int)<=20:=by omega
       clear h0;exact Qs
 · rw[if_neg h];have h1:((n:Int) != (m:Int))=true:=by rw[bne_iff_ne];omega
   have h2:(n != m)=true:=by rw[bne_iff_ne];exact h
   exact Qs
theorem DR {p:Prop} (h:p:=by
 go_wp2_with fail
 (go_ret;exact⟨rfl,bq⟩)
 ):p:=h
theorem aqc (a:Int) (x2 x3 x4 x5:Value) (w:ah):ai ae 140 #[.agg #[.int .i64 1,.int .i64 a,x2,x3,x4,x5]] w (Gives (.bool (dG 0 a 1000000000)) w):=by
 go_enter Tryz.func140,Tryz.ntmps140;go_wp2_with fail;refine(Cf _ _ _ _).mono ?_;rintro e w1 ⟨rfl,rfl⟩;exact DR
theorem Qr {p:Prop} (h:p:=by
 go_enter Tryz.func140,Tryz.ntmps140;go_wp2_with fail;refine(Cf _ _ _ _).mono ?_;rintro e w1 ⟨rfl,rfl⟩;rw[H.out];exact DR
 ):p:=h
theorem aqd (a b:Int) (x3 x4 x5:Value) (w:ah):ai ae 140 #[.agg #[.int .i64 2,.int .i64 a,.int .i64 b,x3,x4,x5]] w (Gives (.bool (dG 0 a b&&decide (b<=1000000000))) w):=by
 cases h:dG 0 a b
 · have H:=hid h;clear h;rw[Bool.false_and];exact Qr
 · have H:=hid h;clear h;rw[Bool.true_and];exact Qr
theorem aqe (x1 x2 x3:Value) (p:Option Addr) (lv c:Nat) (q:Option Addr) (lw f:Nat) (V W:Nat->Int) (w:ah) (hV:Row w p lv V) (hW:Row w q lw W) :
 ai ae 140 #[.agg #[.int .i64 3,x1,x2,x3,.slice p lv c,.slice q lw f]] w (Gives (.bool (tQ 0 1000000000 V lv&&tQ 1 1000 W lw)) w):=by
 cases h:tQ 0 1000000000 V lv
 · have H:=hid h;clear h;rw[Bool.false_and];go_enter Tryz.func140,Tryz.ntmps140;go_wp2_with fail;refine(RY _ _ _ _ _ V _ hV.alloc).mono ?_;rintro e w1 ⟨rfl,rfl⟩;rw[H.out];exact DR
 · have H:=hid h;clear h;rw[Bool.true_and];go_enter Tryz.func140,Tryz.ntmps140;go_wp2_with fail;refine(RY _ _ _ _ _ V _ hV.alloc).mono ?_;rintro e w1 ⟨rfl,rfl⟩;rw[H.out];go_wp2_with fail;refine(RY _ _ _ _ _ W _ hW.alloc).mono ?_;rintro e w1 ⟨rfl,rfl⟩;exact DR
theorem afU {p:Prop} (h:p:=by
 go_enter Tryz.func140,Tryz.ntmps140;go_wp2_with fail;refine(Cf _ _ _ _).mono ?_;rintro e w1 ⟨rfl,rfl⟩;rw[H.out];go_wp2_with fail;refine(Cf _ _ _ _).mono ?_;rintro e w1 ⟨rfl,rfl⟩;rw[H2.out];exact DR
 ):p:=h
theorem aqf (a b n:Int) (x4 x5:Value) (w:ah):ai ae 140 #[.agg #[.int .i64 4,.int .i64 a,.int .i64 b,.int .i64 n,x4,x5]] w (Gives (.bool (dG 1 n 20&&dG 0 a b&&decide (b<=1000000))) w):=by
 cases h:dG 1 n 20
 · have H:=hid h;clear h;rw[Bool.false_and,Bool.false_and];exact Qr
 · have H:=hid h;clear h;rw[Bool.true_and]
   cases h2:dG 0 a b
   · have H2:=hid h2;clear h2;rw[Bool.false_and];exact afU
   · have H2:=hid h2;clear h2;rw[Bool.true_and];exact afU
theorem aqg (a b:Int) (x3 x4 x5:Value) (w:ah):ai ae 140 #[.agg #[.int .i64 5,.int .i64 a,.int .i64 b,x3,x4,x5]] w (Gives (.bool (dG 1 a 1000&&dG 1 b 1000)) w):=by
 cases h:dG 1 a 1000
 · have H:=hid h;clear h;rw[Bool.false_and];exact Qr
 · have H:=hid h;clear h;rw[Bool.true_and];go_enter Tryz.func140,Tryz.ntmps140;go_wp2_with fail;refine(Cf _ _ _ _).mono ?_;rintro e w1 ⟨rfl,rfl⟩;rw[H.out];go_wp2_with fail;refine(Cf _ _ _ _).mono ?_;rintro e w1 ⟨rfl,rfl⟩;exact DR
theorem aj8 (op:Int) (x1 x2 x3 x4 x5:Value) (h:op<1∨5<op) (w:ah):ai ae 91 #[.agg #[.int .i64 op,x1,x2,x3,x4,x5]] w (Gives (.int .i64 1) w):=by
 rcases h with h|h
 · have k1:decide (op<1)=true:=decide_eq_true h;go_enter Tryz.func91,Tryz.ntmps91;go_wp2_with fail
   go_quiet (fail)
   exact DR
 · have k1:decide (op<1)=false:=decide_eq_false (by omega);have k2:decide (5<op)=true:=decide_eq_true h;go_enter Tryz.func91,Tryz.ntmps91;go_wp2_with fail
   go_quiet (fail)
   exact DR
end Di
namespace Di
open Go.RowKit
set_option maxHeartbeats 2000000
def JD (op:Int) (u:Bool) (E:Int) (r:Bool):Int:=if u=true then (if op=3 then (if E=0 then (if r=true then 0 else 2) else E) else (if r=true then 0 else 2)) else 1
theorem afV {p:Prop} (h:p:=by
 go_enter Tryz.func91,Tryz.ntmps91;go_wp2_with fail;go_region_held3 (fun w'=>w'.cell? ⟨w.heap.size,0,X⟩=af (.int .i64 3)/\w'.cell? ⟨w.heap.size,1,X⟩=af (.int .i64 a)/\w'.cell? ⟨w.heap.size,2,X⟩=af (.int .i64 b)/\w'.cell? ⟨w.heap.size,3,X⟩=af (.int .i64 n)/\w'.cell? ⟨w.heap.size,4,X⟩=af (.slice p lv c)/\w'.cell? ⟨w.heap.size,5,X⟩=af (.slice q lw f)) (first|(with_reducible exact six.keep D2)|(with_reducible exact six.keep D1)|(with_reducible exact six.keep six.new.drew)|(with_reducible exact six.keep six.new)|(go_keep;done)) (first|(go_at_call 138;refine(U.out _).mono ?_;rintro e w1 ⟨rfl,hb1⟩;have D1:=six.on hb1 six.new.drew)|(go_at_call 137;refine(S.out _ bq).mono ?_;rintro e w2 ⟨rfl,hb2⟩;have D2:=six.on hb2 D1))
 all_goals
  obtain⟨d0,d1,d2,d3,d4,d5,d6⟩:=D2;have D2:six _ _ _ _ _ _ _ _:=⟨d0,d1,d2,d3,d4,d5,d6⟩
  go_wp2_with fail;refine(L.out _).mono ?_;rintro e w3 ⟨rfl,rfl⟩;go_wp2_with fail;refine(I.out _ bq).mono ?_;rintro e w4 ⟨rfl,hb4⟩;go_wp2_with fail;go_ret;exact⟨rfl,bq⟩
 ):p:=h
theorem afW {p:Prop} (h:p:=by
 go_enter Tryz.func91,Tryz.ntmps91;go_wp2_with fail;go_region_held3 (fun w'=>w'.cell? ⟨w.heap.size,0,X⟩=af (.int .i64 op)/\w'.cell? ⟨w.heap.size,1,X⟩=af (.int .i64 a)/\w'.cell? ⟨w.heap.size,2,X⟩=af (.int .i64 b)/\w'.cell? ⟨w.heap.size,3,X⟩=af (.int .i64 n)/\w'.cell? ⟨w.heap.size,4,X⟩=af (.slice p lv c)/\w'.cell? ⟨w.heap.size,5,X⟩=af (.slice q lw f)) (first|(with_reducible exact six.keep D2)|(with_reducible exact six.keep D1)|(with_reducible exact six.keep six.new.drew)|(with_reducible exact six.keep six.new)|(go_keep;done)) (first|(go_at_call 138;refine(U.out _).mono ?_;rintro e w1 ⟨rfl,hb1⟩;have D1:=six.on hb1 six.new.drew)|(go_at_call 137;refine(S.out _ bq).mono ?_;rintro e w2 ⟨rfl,hb2⟩;have D2:=six.on hb2 D1))
 all_goals
  obtain⟨d0,d1,d2,d3,d4,d5,d6⟩:=D2;have D2:six _ _ _ _ _ _ _ _:=⟨d0,d1,d2,d3,d4,d5,d6⟩
  go_wp2_with fail;refine(I.out _ bq).mono ?_;rintro e w4 ⟨rfl,hb4⟩;go_wp2_with fail;go_ret;exact⟨rfl,bq⟩
 ):p:=h
theorem Jp (op a b n:Int) (p:Option Addr) (lv c:Nat) (q:Option Addr) (lw f:Nat) (k1:decide (op<1)=false) (k5:decide (5<op)=false) (x:Value) (u r:Bool) (E:Int) (w:ah)
 (U:Hid (∀w2,ai ae 138 #[.agg #[.int .i64 op,.int .i64 a,.int .i64 b,.int .i64 n,.slice p lv c,.slice q lw f]] w2 (Gives x w2)))
 (S:Hid (∀w2,Below w.heap.size w w2->ai ae 137 #[x,.agg #[.int .i64 op,.int .i64 0,.int .i64 0,.int .i64 0,.slice X 0 0,.slice X 0 0]] w2 (Gives (.bool u) w2)))
 (I:Hid (∀w2,Below w.heap.size w w2->ai ae 140 #[.agg #[.int .i64 op,.int .i64 a,.int .i64 b,.int .i64 n,.slice p lv c,.slice q lw f]] w2 (Gives (.bool r) w2)))
 (L:Hid (∀w2,ai ae 139 #[.int .i64 lv,.int .i64 lw] w2 fun e w'=>e=.returned (.int .i64 E)/\w2=w')) :
 ai ae 91 #[.agg #[.int .i64 op,.int .i64 a,.int .i64 b,.int .i64 n,.slice p lv c,.slice q lw f]] w (Gives (.int .i64 (JD op u E r)) w):=by
 unfold JD;cases u
 · rw[if_neg (by decide)];go_enter Tryz.func91,Tryz.ntmps91;go_wp2_with fail;go_region_held3 (fun w'=>w'.cell? ⟨w.heap.size,0,X⟩=af (.int .i64 op)/\w'.cell? ⟨w.heap.size,1,X⟩=af (.int .i64 a)/\w'.cell? ⟨w.heap.size,2,X⟩=af (.int .i64 b)/\w'.cell? ⟨w.heap.size,3,X⟩=af (.int .i64 n)/\w'.cell? ⟨w.heap.size,4,X⟩=af (.slice p lv c)/\w'.cell? ⟨w.heap.size,5,X⟩=af (.slice q lw f)) (first|(with_reducible exact six.keep D2)|(with_reducible exact six.keep D1)|(with_reducible exact six.keep six.new.drew)|(with_reducible exact six.keep six.new)|(go_keep;done)) (first|(go_at_call 138;refine(U.out _).mono ?_;rintro e w1 ⟨rfl,hb1⟩;have D1:=six.on hb1 six.new.drew)|(go_at_call 137;refine(S.out _ bq).mono ?_;rintro e w2 ⟨rfl,hb2⟩;have D2:=six.on hb2 D1))
   all_goals
    go_wp2_with fail;go_ret;exact⟨rfl,bq⟩
 · rw[if_pos rfl];by_cases h3:op=3
   · subst h3;rw[if_pos rfl];by_cases hE:E=0
     · subst hE;rw[if_pos rfl];cases r
       · rw[if_neg (by decide)];exact afV
       · rw[if_pos rfl];exact afV
     · rw[if_neg hE];have hE2:(E != 0)=true:=by rw[bne_iff_ne];exact hE
       clear hE;go_enter Tryz.func91,Tryz.ntmps91;go_wp2_with fail;go_region_held3 (fun w'=>w'.cell? ⟨w.heap.size,0,X⟩=af (.int .i64 3)/\w'.cell? ⟨w.heap.size,1,X⟩=af (.int .i64 a)/\w'.cell? ⟨w.heap.size,2,X⟩=af (.int .i64 b)/\w'.cell? ⟨w.heap.size,3,X⟩=af (.int .i64 n)/\w'.cell? ⟨w.heap.size,4,X⟩=af (.slice p lv c)/\w'.cell? ⟨w.heap.size,5,X⟩=af (.slice q lw f)) (first|(with_reducible exact six.keep D2)|(with_reducible exact six.keep D1)|(with_reducible exact six.keep six.new.drew)|(with_reducible exact six.keep six.new)|(go_keep;done)) (first|(go_at_call 138;refine(U.out _).mono ?_;rintro e w1 ⟨rfl,hb1⟩;have D1:=six.on hb1 six.new.drew)|(go_at_call 137;refine(S.out _ bq).mono ?_;rintro e w2 ⟨rfl,hb2⟩;have D2:=six.on hb2 D1))
       all_goals
        obtain⟨d0,d1,d2,d3,d4,d5,d6⟩:=D2;have D2:six _ _ _ _ _ _ _ _:=⟨d0,d1,d2,d3,d4,d5,d6⟩
        go_wp2_with fail;refine(L.out _).mono ?_;rintro e w3 ⟨rfl,rfl⟩;go_wp2_with fail;go_ret;exact⟨rfl,bq⟩
   · rw[if_neg h3];have h4:(op==3)=false:=by rw[beq_eq_false_iff_ne];exact h3
     clear h3;cases r
     · rw[if_neg (by decide)];exact afW
     · rw[if_pos rfl];exact afW
def Qk (op a b n:Int) (lv lw:Nat):Bool:=
 if op=1 then b==0&&(n==0&&(lv==0&&lw==0))
 else if op=2 then n==0&&(lv==0&&lw==0)
 else if op=3 then a==0&&(b==0&&n==0)
 else if op=4 then lv==0&&lw==0
 else if op=5 then n==0&&(lv==0&&lw==0)
 else false
def aqh (op a b n:Int) (lv lw:Nat) (V W:Nat->Int):Bool:=
 if op=1 then dG 0 a 1000000000
 else if op=2 then dG 0 a b&&decide (b<=1000000000)
 else if op=3 then tQ 0 1000000000 V lv&&tQ 1 1000 W lw
 else if op=4 then dG 1 n 20&&dG 0 a b&&decide (b<=1000000)
 else dG 1 a 1000&&dG 1 b 1000
def Cm (op a b n:Int) (lv lw:Nat) (V W:Nat->Int):Int:=JD op (Qk op a b n lv lw) (Ke lv lw) (aqh op a b n lv lw V W)
theorem abb (m:Nat) (V Z:Nat->Int):oo m 0 V Z=(m==0):=by
 unfold oo
 cases h:(m==0)
 · rfl
 · rw[beq_iff_eq.1 h];rfl
theorem uq (w:ah) (V:Nat->Int):Row w X 0 V:=⟨Nat.zero_le _,.inl rfl⟩
theorem KT (op a b n uj a2 b2 n2:Int) (lv lw:Nat) (V W Z:Nat->Int):o_ op a b n lv lw V W uj a2 b2 n2 0 0 Z Z=(op==uj&&(a==a2&&(b==b2&&(n==n2&&(lv==0&&lw==0))))):=by
 unfold o_;rw[abb,abb]
def Z0 (_:Nat):Int:=0
theorem pO (op a b n:Int) (p:Option Addr) (lv c:Nat) (q:Option Addr) (lw f:Nat) (V W:Nat->Int) (w:ah) (hV:Row w p lv V) (hW:Row w q lw W):ai ae 91 #[.agg #[.int .i64 op,.int .i64 a,.int .i64 b,.int .i64 n,.slice p lv c,.slice q lw f]] w (Gives (.int .i64 (Cm op a b n lv lw V W)) w):=by
 by_cases ho:op<1∨5<op
 · have e:Cm op a b n lv lw V W=1:=by
    have:Qk op a b n lv lw=false:=by unfold Qk;rw[if_neg (by omega),if_neg (by omega),if_neg (by omega),if_neg (by omega),if_neg (by omega)]
    unfold Cm JD;rw[this];rfl
   rw[e];exact aj8 op _ _ _ _ _ ho w
 · have h:op=1∨op=2∨op=3∨op=4∨op=5:=by omega
   clear ho;rcases h with rfl|rfl|rfl|rfl|rfl
   · have S1:=fun(w2:ah) (hb:Below w.heap.size w w2)=>zQ 1 0 b n p lv c q lw f V W 1 0 0 0 X 0 0 X 0 0 Z0 Z0 w2 (hV.on hb) (hW.on hb) (uq _ _) (uq _ _);simp only[KT] at S1;exact Jp 1 a b n p lv c q lw f (by decide) (by decide) _ _ _ _ w (hid (asB a b n p lv c q lw f)) (hid S1) (hid fun w2 _=>aqc a _ _ _ _ w2) (hid (Kg lv lw))
   · have S1:=fun(w2:ah) (hb:Below w.heap.size w w2)=>zQ 2 0 0 n p lv c q lw f V W 2 0 0 0 X 0 0 X 0 0 Z0 Z0 w2 (hV.on hb) (hW.on hb) (uq _ _) (uq _ _);simp only[KT] at S1;exact Jp 2 a b n p lv c q lw f (by decide) (by decide) _ _ _ _ w (hid (asC a b n p lv c q lw f)) (hid S1) (hid fun w2 _=>aqd a b _ _ _ w2) (hid (Kg lv lw))
   · have S1:=fun(w2:ah) (_:Below w.heap.size w w2)=>zQ 3 a b n X 0 0 X 0 0 Z0 Z0 3 0 0 0 X 0 0 X 0 0 Z0 Z0 w2 (uq _ _) (uq _ _) (uq _ _) (uq _ _);have e:Qk 3 a b n lv lw=o_ 3 a b n 0 0 Z0 Z0 3 0 0 0 0 0 Z0 Z0:=by
      rw[KT];show(a==0&&(b==0&&n==0))=_
      simp
     unfold Cm;rw[e];exact Jp 3 a b n p lv c q lw f (by decide) (by decide) _ _ _ _ w (hid (asD a b n p lv c q lw f)) (hid S1) (hid fun w2 hb=>aqe _ _ _ p lv c q lw f V W w2 (hV.on hb) (hW.on hb)) (hid (Kg lv lw))
   · have S1:=fun(w2:ah) (hb:Below w.heap.size w w2)=>zQ 4 0 0 0 p lv c q lw f V W 4 0 0 0 X 0 0 X 0 0 Z0 Z0 w2 (hV.on hb) (hW.on hb) (uq _ _) (uq _ _);simp only[KT] at S1;exact Jp 4 a b n p lv c q lw f (by decide) (by decide) _ _ _ _ w (hid (asE a b n p lv c q lw f)) (hid S1) (hid fun w2 _=>aqf a b n _ _ w2) (hid (Kg lv lw))
   · have S1:=fun(w2:ah) (hb:Below w.heap.size w w2)=>zQ 5 0 0 n p lv c q lw f V W 5 0 0 0 X 0 0 X 0 0 Z0 Z0 w2 (hV.on hb) (hW.on hb) (uq _ _) (uq _ _);simp only[KT] at S1;exact Jp 5 a b n p lv c q lw f (by decide) (by decide) _ _ _ _ w (hid (asF a b n p lv c q lw f)) (hid S1) (hid fun w2 _=>aqg a b _ _ _ w2) (hid (Kg lv lw))
end Di
namespace Sm
open Na (bs jO iK)
open Ex (Ex iy take_one)
structure Dt where
 op:Int
 a:Int
 b:Int
 n:Int
 vs:List Int
 ws:List Int
inductive St where
 | mk (o:Int) (nm f:ByteArray) (e g:Ex) (ar:List Ex) (di:Dt) (fl:Bool) (bo el:List St)
def St.o:St->Int
 | .mk o _ _ _ _ _ _ _ _ _=>o
def St.nm:St->ByteArray
 | .mk _ nm _ _ _ _ _ _ _ _=>nm
def St.f:St->ByteArray
 | .mk _ _ f _ _ _ _ _ _ _=>f
def St.e:St->Ex
 | .mk _ _ _ e _ _ _ _ _ _=>e
def St.g:St->Ex
 | .mk _ _ _ _ g _ _ _ _ _=>g
def St.ar:St->List Ex
 | .mk _ _ _ _ _ ar _ _ _ _=>ar
def St.di:St->Dt
 | .mk _ _ _ _ _ _ di _ _ _=>di
def St.fl:St->Bool
 | .mk _ _ _ _ _ _ _ fl _ _=>fl
def St.bo:St->List St
 | .mk _ _ _ _ _ _ _ _ bo _=>bo
def St.el:St->List St
 | .mk _ _ _ _ _ _ _ _ _ el=>el
mutual
def cn:St->Nat
 | .mk _ _ _ _ _ _ _ _ bo el=>eZ bo+eZ el+1
def eZ:List St->Nat
 | []=>0
 | x::t=>cn x+eZ t
end
mutual
def dp:St->Nat
 | .mk _ _ _ _ _ _ _ _ bo el=>max (gV bo) (gV el)+1
def gV:List St->Nat
 | []=>0
 | x::t=>max (dp x) (gV t)
end
mutual
def ord:St->List St
 | .mk o nm f e g ar di fl bo el=>.mk o nm f e g ar di fl bo el::(fw bo++fw el)
def fw:List St->List St
 | []=>[]
 | x::t=>ord x++fw t
end
def sz0 (e g:Ex) (ar:List Ex) (di:Dt):Nat:=1+Ex.cnt e+Ex.cnt g+di.vs.length+di.ws.length+Ex.jk ar
mutual
def sz:St->Nat
 | .mk _ _ _ e g ar di _ bo el=>sz0 e g ar di+Dw bo+Dw el
def Dw:List St->Nat
 | []=>0
 | x::t=>sz x+Dw t
end
theorem Ar (x:St):cn x=eZ x.bo+eZ x.el+1:=by obtain⟨o,nm,f,e,g,ar,di,fl,bo,el⟩:=x;rw[cn];rfl
theorem Tj (x:St):dp x=max (gV x.bo) (gV x.el)+1:=by obtain⟨o,nm,f,e,g,ar,di,fl,bo,el⟩:=x;rw[dp];rfl
theorem zI (x:St):ord x=x::(fw x.bo++fw x.el):=by obtain⟨o,nm,f,e,g,ar,di,fl,bo,el⟩:=x;rw[ord];rfl
theorem Z7 (x:St):1<=cn x:=by rw[Ar];omega
theorem alc (x:St) (t:List St):gV (x::t)=max (dp x) (gV t):=by rw[gV]
theorem Jr:∀a b:List St,eZ (a++b)=eZ a+eZ b
 | [],b=>by simp[eZ]
 | x::t,b=>by simp only[ag,eZ,Jr t b];omega
theorem aaE:∀a b:List St,gV (a++b)=max (gV a) (gV b)
 | [],b=>by simp[gV]
 | x::t,b=>by simp only[ag,gV,aaE t b];omega
theorem GU:∀a b:List St,fw (a++b)=fw a++fw b
 | [],b=>rfl
 | x::t,b=>by simp only[ag,fw,GU t b,List.append_assoc]
theorem akw {l:List St} {k:Nat} {x:St} (h:l[k]?=af x):eZ (l.take (k+1))=eZ (l.take k)+cn x:=by rw[take_one h,Jr];simp[eZ]
theorem aek {l:List St} {k:Nat} {x:St} (h:l[k]?=af x):fw (l.take (k+1))=fw (l.take k)++ord x:=by rw[take_one h,GU];simp[fw]
theorem akv (l:List St) (k:Nat):eZ (l.take k)<=eZ l:=by
 have:=Jr (l.take k) (l.drop k);rw[List.take_append_drop] at this;omega
theorem ald (l:List St) (k:Nat):gV (l.take k)<=gV l:=by
 have:=aaE (l.take k) (l.drop k);rw[List.take_append_drop] at this;omega
theorem Gj:∀{l:List St} {x:St},x∈l->cn x<=eZ l
 | [],x,h=>by cases h
 | y::t,x,h=>by
  unfold eZ;rcases List.mem_cons.1 h with rfl|h
  · omega
  · have:=Gj h;omega
theorem Pj:∀{l:List St} {x y:St},x∈l->y∈ord x->y∈fw l
 | [],x,y,h,_=>by cases h
 | z::t,x,y,h,g=>by
  unfold fw;rcases List.mem_cons.1 h with rfl|h
  · exact List.mem_append_left _ g
  · exact List.mem_append_right _ (Pj h g)
theorem apj (x:St):x∈ord x:=by rw[zI];exact List.mem_cons_self
theorem apc {l:List St} {x:St} (h:x∈l):x∈fw l:=Pj h (apj x)
theorem apd {x y:St} (h:y∈fw x.bo):y∈ord x:=by rw[zI];exact List.mem_cons_of_mem _ (List.mem_append_left _ h)
theorem ape {x y:St} (h:y∈fw x.el):y∈ord x:=by rw[zI];exact List.mem_cons_of_mem _ (List.mem_append_right _ h)
theorem St.ind {P:St->Prop} (h:∀x:St,(∀y∈x.bo,P y)->(∀y∈x.el,P y)->P x) (x:St):P x:=by
 have:∀k x,cn x<=k->P x:=by
  intro k
  induction k with
  | zero=>intro x hx;have:=Z7 x;omega
  | succ k ih=>
   intro x hx;rw[Ar] at hx;exact h x (fun y hy=>ih y (by have:=Gj hy;omega)) (fun y hy=>ih y (by have:=Gj hy;omega))
 exact this _ x (au _)
theorem UK {Q:List St->Prop} (h:∀sl:List St,(∀x∈sl,Q x.bo/\Q x.el)->Q sl) (sl:List St):Q sl:=by
 have:∀k sl,eZ sl<=k->Q sl:=by
  intro k
  induction k with
  | zero=>
   intro sl hs;refine h sl fun x hx=>?_;have:=Gj hx;have:=Z7 x;omega
  | succ k ih=>
   intro sl hs;refine h sl fun x hx=>?_;have h1:=Gj hx;rw[Ar] at h1;exact⟨ih _ (by omega),ih _ (by omega)⟩
 exact this _ sl (au _)
def pW:List St->Nat
 | []=>0
 | x::t=>max (max (gV x.bo) (gV x.el)) (pW t)
theorem Ti:∀{l:List St},0<l.length->gV l=pW l+1
 | [x],_=>by simp only[gV,pW,Tj];omega
 | x::y::t,_=>by
  have:=Ti (l:=y::t) (by simp);rw[alc,this,Tj,show pW (x::y::t)=max (max (gV x.bo) (gV x.el)) (pW (y::t)) from rfl];omega
theorem acF:∀a b:List St,pW (a++b)=max (pW a) (pW b)
 | [],b=>by simp[pW]
 | x::t,b=>by simp only[ag,pW,acF t b];omega
theorem ana {l:List St} {k:Nat} {x:St} (h:l[k]?=af x):pW (l.take (k+1))=max (pW (l.take k)) (max (gV x.bo) (gV x.el)):=by rw[take_one h,acF];simp[pW]
theorem acH:∀l:List St,pW l<=gV l
 | []=>au _
 | x::t=>by rw[Ti (by simp)];omega
theorem Ph:∀{l:List St},(∀x∈l,(ord x).length=cn x)->(fw l).length=eZ l
 | [],_=>rfl
 | x::t,h=>by rw[fw,eZ,List.length_append,h x List.mem_cons_self,Ph fun y hy=>h y (List.mem_cons_of_mem _ hy)]
theorem apf (x:St):(ord x).length=cn x:=by
 induction x using St.ind with
 | h x h1 h2=>
  rw[zI,Ar,List.length_cons,List.length_append,Ph h1,Ph h2]
theorem Pg (l:List St):(fw l).length=eZ l:=Ph fun x _=>apf x
theorem Oa:∀{l:List St},(∀x∈l,dp x<=cn x)->gV l<=eZ l
 | [],_=>au _
 | x::t,h=>by
  have h1:=h x List.mem_cons_self;have h2:=Oa fun y hy=>h y (List.mem_cons_of_mem _ hy);rw[gV,eZ];omega
theorem ale (x:St):dp x<=cn x:=by
 induction x using St.ind with
 | h x h1 h2=>
  have a:=Oa h1;have b:=Oa h2;rw[Tj,Ar];omega
theorem N_ (l:List St):gV l<=eZ l:=Oa fun x _=>ale x
theorem acG (l:List St) (k:Nat):pW (l.take k)<=eZ l:=Nat.le_trans (acH _) (Nat.le_trans (ald l k) (N_ l))
def kQ (x y:Dt):Bool:=decide (x.op=y.op)&&(decide (x.a=y.a)&&(decide (x.b=y.b)&&(decide (x.n=y.n)&&(decide (x.vs=y.vs)&&decide (x.ws=y.ws)))))
theorem Vz {x y:Dt}:kQ x y=true↔x=y:=by
 obtain⟨a,b,c,d,e,f⟩:=x;obtain⟨a',b',c',d',e',f'⟩:=y;simp[kQ]
def Bo (x y:St):Bool:=decide (x.o=y.o)&&decide (bs x.nm=bs y.nm)&&decide (bs x.f=bs y.f)&&(x.fl==y.fl)&&Ex.same x.e y.e&&Ex.same x.g y.g&&Ex.ky x.ar y.ar&&kQ x.di y.di
mutual
def zP:St->St->Bool
 | .mk o nm f e g ar di fl bo el,y=>Bo (.mk o nm f e g ar di fl bo el) y&&jN bo y.bo&&jN el y.el
def jN:List St->List St->Bool
 | [],[]=>true
 | x::t,y::u=>zP x y&&jN t u
 | [],_::_=>false
 | _::_,[]=>false
end
theorem VG (x y:St):zP x y=(Bo x y&&jN x.bo y.bo&&jN x.el y.el):=by obtain⟨o,nm,f,e,g,ar,di,fl,bo,el⟩:=x;rw[zP];rfl
theorem aqD (x y:St) (t u:List St):jN (x::t) (y::u)=(zP x y&&jN t u):=by rw[jN]
theorem Qa:∀{l m:List St},(∀x∈l,∀y,zP x y=true↔x=y)->(jN l m=true↔l=m)
 | [],[],_=>by simp[jN]
 | x::t,y::u,h=>by
  rw[aqD,aj,h x List.mem_cons_self y,Qa fun z hz=>h z (List.mem_cons_of_mem _ hz),List.cons.injEq]
 | [],_::_,_=>by simp[jN]
 | _::_,[],_=>by simp[jN]
theorem VF (x:St):∀y,zP x y=true↔x=y:=by
 induction x using St.ind with
 | h x h1 h2=>
  intro y;rw[VG,aj,aj,Qa h1,Qa h2];obtain⟨o,nm,f,e,g,ar,di,fl,bo,el⟩:=x;obtain⟨o',nm',f',e',g',Ze,di',fl',Sq,el'⟩:=y;simp only[Bo,aj,decide_eq_true_eq,beq_iff_eq,Vz,Ex.same_iff];simp only[St.o,St.nm,St.f,St.e,St.g,St.ar,St.di,St.fl,St.bo,St.el,St.mk.injEq];have e1:bs nm=bs nm'↔nm=nm':=⟨jO,fun h=>by rw[h]⟩
  have e2:bs f=bs f'↔f=f':=⟨jO,fun h=>by rw[h]⟩
  have e3:Ex.ky ar Ze=true↔ar=Ze:=⟨Ex.KQ,fun h=>by rw[h];exact Ex.G_ _⟩
  rw[e1,e2,e3];constructor
  · rintro⟨⟨⟨⟨⟨⟨⟨⟨⟨q1,q2⟩,q3⟩,q4⟩,q5⟩,q6⟩,q7⟩,q8⟩,q9⟩,xy⟩;exact⟨q1,q2,q3,q5,q6,q7,q8,q4,q9,xy⟩
  · rintro⟨q1,q2,q3,q5,q6,q7,q8,q4,q9,xy⟩;exact⟨⟨⟨⟨⟨⟨⟨⟨⟨q1,q2⟩,q3⟩,q4⟩,q5⟩,q6⟩,q7⟩,q8⟩,q9⟩,xy⟩
theorem KR {l m:List St}:jN l m=true↔l=m:=Qa fun x _=>VF x
theorem VE (l:List St):jN l l=true:=KR.2 rfl
theorem aqE {a b:List St} (h:¬a.length=b.length):jN a b=false:=by
 cases g:jN a b with
 | false=>rfl
 | true=>exact absurd (by rw[KR.1 g]) h
theorem aqF {l l2:List St} {k:Nat} {x y:St} (hx:l[k]?=af x) (hy:l2[k]?=af y) (h:zP x y=false):jN l l2=false:=by
 cases g:jN l l2 with
 | false=>rfl
 | true=>
  have:=KR.1 g;subst this;rw[hx] at hy;cases hy
  rw[(VF x x).2 rfl] at h;cases h
theorem ar6 {l l2:List St} {k:Nat} {x y:St} (hx:l[k]?=af x) (hy:l2[k]?=af y) (h:zP x y=true) (g:l.take k=l2.take k):l.take (k+1)=l2.take (k+1):=by rw[take_one hx,take_one hy,(VF x y).1 h,g]
def kn (o:Int):Bool:=decide (1<=o)&&decide (o<=18)
def uN (o:Int):Bool:=decide (o=1∨o=2∨o=6∨o=7∨o=8∨o=9∨o=10∨o=11∨o=12∨o=13∨o=14∨o=15∨o=16∨o=17)
def uO (o:Int):Bool:=decide (o=2∨o=9∨o=13)
def uE (o:Int):Bool:=decide (o=1∨o=3∨o=4∨o=5∨o=6∨o=7∨o=8∨o=12∨o=13∨o=14∨o=15∨o=16∨o=17)
def uF (o:Int):Bool:=decide (o=6)
def uA (o:Int):Bool:=decide (o=13∨o=14)
def uD (o:Int):Bool:=decide (o=2)
def uG (o:Int):Bool:=decide (o=6)
def uB (o:Int):Bool:=decide (o=3∨o=4)
def uL (o:Int):Bool:=decide (o=3)
abbrev nE:ByteArray:=⟨#[]⟩
def zE:Ex:=.mk 0 nE 0 []
def zD:Dt:=⟨0,0,0,0,[],[]⟩
def TI (x:St):Bool:=(uN x.o||decide (bs x.nm=[]))&&(uO x.o||decide (bs x.f=[]))&&(uE x.o||Ex.same x.e zE)&&(uF x.o||Ex.same x.g zE)&&(uA x.o||decide (x.ar.length=0))&&(uD x.o||kQ x.di zD)&&(uG x.o || !x.fl)&&(uB x.o||decide (x.bo.length=0))&&(uL x.o||decide (x.el.length=0))
def dR (a b:Int):Int:=if a=0 then b else a
def onE (u:Bool) (v:Int):Int:=if u then v else 0
def oh:List Ex->Int
 | []=>0
 | x::t=>dR (iy false x) (oh t)
def Am (l:List Ex):Int:=if 6<l.length then 6 else oh l
def oQ (d:Dt):Int:=Di.Cm d.op d.a d.b d.n d.vs.length d.ws.length (fun i=>d.vs.getD i 0) (fun i=>d.ws.getD i 0)
def PZ (x:St):Int:=dR (onE (uN x.o) (iK (bs x.nm))) (dR (onE (uO x.o) (iK (bs x.f))) (dR (onE (uE x.o) (iy false x.e)) (dR (onE (uF x.o) (iy false x.g)) (dR (onE (uA x.o) (Am x.ar)) (onE (uD x.o) (oQ x.di))))))
def zC (x:St):Int:=if kn x.o&&TI x then PZ x else 1
def om:List St->Int
 | []=>0
 | x::t=>dR (zC x) (om t)
theorem uk {a b:Int} (h:¬a=0):dR a b=a:=if_neg h
theorem lJ {b:Int}:dR 0 b=b:=if_pos rfl
theorem um (a:Int):dR a 0=a:=by unfold dR;split <;> simp_all
theorem CY (a b c:Int):dR (dR a b) c=dR a (dR b c):=by unfold dR;split <;> simp_all
theorem Sk:∀a b:List Ex,oh (a++b)=dR (oh a) (oh b)
 | [],b=>lJ.symm
 | x::t,b=>by rw[ag,oh,oh,Sk t b,CY]
theorem ZG {l:List Ex} {k:Nat} {x:Ex} (h:l[k]?=af x):oh (l.take (k+1))=dR (oh (l.take k)) (iy false x):=by rw[take_one h,Sk];simp[oh,um]
theorem aiS {l:List Ex} {k:Nat} {x:Ex} (h:l[k]?=af x) (h0:oh (l.take k)=0) (h1:¬iy false x=0):oh l=iy false x:=by
 have h2:=Sk (l.take (k+1)) (l.drop (k+1));rw[List.take_append_drop,ZG h,h0,lJ,uk h1] at h2;exact h2
theorem Sl:∀a b:List St,om (a++b)=dR (om a) (om b)
 | [],b=>lJ.symm
 | x::t,b=>by rw[ag,om,om,Sl t b,CY]
theorem aiT {l:List St} {x:St} (h:om l=0):om (l++[x])=zC x:=by rw[Sl,h,lJ,om,om,um]
def iY (l:List St):Int:=if 200<eZ l then 6 else if 12<gV l then 11 else om (fw l)
end Sm
namespace Md
open Na (bs jO iK fst TK)
open Sm (St Dt kQ iY oQ dR uk lJ zD nE)
instance atl:DecidableEq ByteArray:=fun a b=>if h:bs a=bs b then isTrue (jO h) else isFalse (fun e=>h (by rw[e]))
structure Val where
 nm:ByteArray
 ty:Int
 n:Int
structure dQ where
 t:Int
 u:Int
structure dm where
 nm:ByteArray
 un:Int
 sh:List dQ
 cy:Int
 fs:ByteArray
 up:Dt
 dn:Dt
structure iI where
 nm:ByteArray
 rm:Int
 po:Int
structure iF where
 nm:ByteArray
 ln:Int
 sp:Int
structure d_ where
 nm:ByteArray
 ty:Int
structure eQ where
 nm:ByteArray
 ps:List d_
 ls:List d_
 bo:List St
structure h_ where
 ro:ByteArray
 ar:List Int
 a:Int
 e:Int
 u:Int
structure gU where
 co:Int
 wh:ByteArray
 nm:ByteArray
structure Lw where
 nm:ByteArray
 ts:List gU
 tt:Int
structure gz where
 fr:ByteArray
 tt:ByteArray
 de:Int
structure b_ where
 nm:ByteArray
 va:List Val
 rs:List dm
 st:List iI
 be:List iF
 qu:List ByteArray
 sm:List ByteArray
 ta:List ByteArray
 le:List ByteArray
 co:List ByteArray
 ro:List eQ
 ss:List h_
 la:List Lw
structure dx where
 nm:ByteArray
 pa:List Val
 si:List b_
 li:List gz
theorem abF (x s:ByteArray) (t:List ByteArray):fst (x::t) s=if bs x=bs s then 0 else if fst t s = -1 then -1 else fst t s+1:=rfl
theorem abH {s:ByteArray}:∀{l:List ByteArray},0<=fst l s↔s∈l
 | []=>by
  have:fst [] s = -1:=rfl;rw[this];constructor
  · intro h;omega
  · intro h;cases h
 | x::t=>by
  have ih:=abH (s:=s) (l:=t);have h0:=TK s t;rw[abF,List.mem_cons];by_cases h:bs x=bs s
  · rw[if_pos h];exact⟨fun _=>.inl (jO h).symm,fun _=>Int.le_refl _⟩
  · rw[if_neg h];have hne:¬s=x:=fun e=>h (by rw[e]);constructor
    · intro g
      split at g
      · omega
      · exact .inr (ih.1 (by omega))
    · rintro(g|g)
      · exact absurd g hne
      · have:=ih.2 g
        split <;> omega
instance atK (x:ByteArray) (l:List ByteArray):Decidable (x∈l):=decidable_of_iff _ abH
def jA (acc:List ByteArray) (x:ByteArray):Int:=dR (iK (bs x)) (if x∈acc then 4 else 0)
def ek (acc:List ByteArray) (p:ByteArray×Int):Int×List ByteArray:=(dR (jA acc p.1) p.2,if jA acc p.1=0 then acc++[p.1] else acc)
def dN {α σ:Type} (f:σ->α->Int×σ):List α->σ->Int×σ
 | [],s=>(0,s)
 | x::t,s=>if (f s x).1=0 then dN f t (f s x).2 else f s x
def dh {α σ:Type} (f:σ->α->Int×σ) (most:Nat) (l:List α) (s:σ):Int×σ:=if most<l.length then (6,s) else dN f l s
theorem TU {α σ:Type} {f:σ->α->Int×σ}:∀{a b:List α} {s:σ},dN f (a++b) s=if (dN f a s).1=0 then dN f b (dN f a s).2 else dN f a s
 | [],b,s=>by simp[dN]
 | x::t,b,s=>by
  rw[ag,dN,dN,TU];by_cases h:(f s x).1=0
  · rw[if_pos h,if_pos h]
  · rw[if_neg h,if_neg h,if_neg h]
theorem amN {α σ:Type} {f:σ->α->Int×σ} {x:α} {s:σ}:dN f [x] s=f s x:=by
 rw[dN];by_cases h:(f s x).1=0
 · rw[if_pos h,dN];exact Prod.ext h.symm rfl
 · rw[if_neg h]
theorem abR {α σ:Type} {f:σ->α->Int×σ} {l:List α} {k:Nat} {x:α} {s r:σ} (hx:l[k]?=af x) (h:dN f (l.take k) s=(0,r)):dN f (l.take (k+1)) s=f r x:=by
 rw[Ex.take_one hx,TU,h,amN];rfl
theorem amO {α σ:Type} {f:σ->α->Int×σ} {l:List α} {k:Nat} {x:α} {s r:σ} (hx:l[k]?=af x) (h:dN f (l.take k) s=(0,r)) (h1:¬(f r x).1=0):dN f l s=f r x:=by
 have h2:=TU (f:=f) (a:=l.take (k+1)) (b:=l.drop (k+1)) (s:=s);rw[List.take_append_drop,abR hx h,if_neg h1] at h2;exact h2
theorem amM {α σ:Type} {f:σ->α->Int×σ} {l:List α} {k:Nat} {x:α} {s r:σ} (hx:l[k]?=af x) (h:dN f (l.take k) s=(0,r)) (h1:(f r x).1=0):dN f (l.take (k+1)) s=(0,(f r x).2):=by
 rw[abR hx h];exact Prod.ext h1 rfl
theorem abP {α β σ:Type} {f:σ->β->Int×σ} {g:α->β}:∀{l:List α} {s:σ},dN f (l.map g) s=dN (fun s x=>f s (g x)) l s
 | [],s=>rfl
 | x::t,s=>by rw[List.map_cons,dN,dN,abP]
theorem pQ {α β σ:Type} {f:σ->β->Int×σ} {g:α->β} {most:Nat} {l:List α} {s:σ}:dh f most (l.map g) s=dh (fun s x=>f s (g x)) most l s:=by
 unfold dh;rw[List.length_map,abP]
def Cq {α:Type} (f:α->Int):List α->Int
 | []=>0
 | x::t=>dR (f x) (Cq f t)
def AY {α:Type} (f:α->Int) (most:Nat) (l:List α):Int:=if most<l.length then 6 else Cq f l
theorem abQ {α:Type} {f:α->Int}:∀{l:List α},dN (fun(_:Unit) x=>(f x,())) l ()=(Cq f l,())
 | []=>rfl
 | x::t=>by
  rw[dN,Cq,abQ];by_cases h:f x=0
  · rw[if_pos h,h,lJ]
  · rw[if_neg h,uk h]
theorem aaH {α:Type} {f:α->Int} {most:Nat} {l:List α}:dh (fun(_:Unit) x=>(f x,())) most l ()=(AY f most l,()):=by
 unfold dh AY;by_cases h:most<l.length
 · rw[if_pos h,if_pos h]
 · rw[if_neg h,if_neg h,abQ]
def iX (lo n hi:Int):Bool:=decide (lo<=n)&&decide (n<=hi)
def typ (t:Int):Bool:=decide (t=1)||decide (t=2)||decide (t=3)
def fits (t n:Int):Bool:=if t=1 then iX (-1000000000000) n 1000000000000 else if t=2 then iX 0 n 1 else if t=3 then iX 0 n 1000000000 else false
def uf (n:Int):Bool:=iX 0 n 1000000000
def JX (n:Int):Bool:=iX 0 n 1000
def Bz (v:Val):Int:=if typ v.ty then (if fits v.ty v.n then 0 else 2) else 1
def Co (f:d_):Int:=if typ f.ty then 0 else 1
def tX (cy:Int) (prev:Option dQ) (c:dQ):Int:=
 if iX 0 c.t (cy-1)&&JX c.u then (match prev with|none=>0|some d=>if c.t<=d.t then 12 else 0) else 2
def lG (cy:Int):Option dQ->List dQ->Int
 | _,[]=>0
 | p,c::t=>dR (tX cy p c) (lG cy (af c) t)
def uy (l:List dQ) (cy:Int):Int:=
 if l.length=0 then (if cy=0 then 0 else 1) else if 20<l.length then 6 else if iX 1 cy 1000000000 then lG cy X l else 2
def zo (r:dm) (sm:List ByteArray):Int:=
 if bs r.fs=[] then (if kQ r.up zD&&kQ r.dn zD then 0 else 1) else if fst sm r.fs<0 then 5 else dR (oQ r.up) (oQ r.dn)
def Bg (sm:List ByteArray) (r:dm):Int:=if JX r.un then dR (uy r.sh r.cy) (zo r sm) else 2
def yJ (d:iI):Int:=if iX 1 d.rm 1000 then (if iX 1 d.po 3 then 0 else 1) else 2
def xV (b:iF):Int:=if iX 1 b.ln 1000&&iX 1 b.sp 1000 then 0 else 2
def JH (f:d_):ByteArray×Int:=(f.nm,Co f)
def Bi (r:eQ):Int:=if 6<r.ps.length then 6 else dR (dh (fun a f=>ek a (JH f)) 16 (r.ps++r.ls) []).1 (iY r.bo)
def Fw (v:Val):ByteArray×Int:=(v.nm,Bz v)
def KG (sm:List ByteArray) (r:dm):ByteArray×Int:=(r.nm,Bg sm r)
def Lh (d:iI):ByteArray×Int:=(d.nm,yJ d)
def I_ (b:iF):ByteArray×Int:=(b.nm,xV b)
def qK (x:ByteArray):ByteArray×Int:=(x,0)
def KH (r:eQ):ByteArray×Int:=(r.nm,Bi r)
def kinds (s:b_):List (Nat×List (ByteArray×Int)):=[(32,s.va.map Fw),(32,s.rs.map (KG s.sm)),(32,s.st.map Lh),(32,s.be.map I_),(32,s.qu.map qK),(32,s.sm.map qK),(32,s.ta.map qK),(32,s.le.map qK),(32,s.co.map qK),(16,s.ro.map KH)]
def Li:List (Nat×List (ByteArray×Int))->List ByteArray->List Int
 | [],_=>[]
 | k::t,acc=>(dh ek k.1 k.2 acc).1::Li t (dh ek k.1 k.2 acc).2
def idE (x:Int):Int:=x
def qC:List d_->List Int->Bool
 | p::t,n::u=>fits p.ty n&&qC t u
 | _,_=>true
def xA (ro:List eQ) (x:ByteArray):Int:=fst (ro.map (·.nm)) x
def vS (ro:List eQ) (d:h_):Int:=
 match (if xA ro d.ro<0 then X else ro[(xA ro d.ro).toNat]?) with
 | none=>5
 | some r=>if d.ar.length=r.ps.length then (if qC r.ps d.ar then (if uf d.a&&uf d.e&&uf d.u && !(decide (d.e=0) && !decide (d.u=0)) then 0 else 2) else 2) else 8
def names (s:b_):List (List ByteArray):=[s.va.map (·.nm),s.rs.map (·.nm),s.st.map (·.nm),s.be.map (·.nm),s.qu,s.sm,s.ta,s.le,s.co,s.ro.map (·.nm)]
abbrev nR:ByteArray:=⟨#[118,97,114]⟩
abbrev nO:ByteArray:=⟨#[114,101,115,111,117,114,99,101]⟩
abbrev mV:ByteArray:=⟨#[115,116,111,114,101]⟩
abbrev nK:ByteArray:=⟨#[98,101,108,116]⟩
abbrev nN:ByteArray:=⟨#[113,117,101,117,101]⟩
abbrev nP:ByteArray:=⟨#[115,116,114,101,97,109]⟩
abbrev nQ:ByteArray:=⟨#[116,97,108,108,121]⟩
abbrev nL:ByteArray:=⟨#[108,101,118,101,108]⟩
abbrev mR:ByteArray:=⟨#[99,111,117,110,116]⟩
abbrev mU:ByteArray:=⟨#[114,111,117,116,105,110,101]⟩
def words:List ByteArray:=[nR,nO,mV,nK,nN,nP,nQ,nL,mR,mU]
def Kz:List ByteArray->List (List ByteArray)->ByteArray->ByteArray×Int
 | w::t,l::u,x=>if 0<=fst l x then (w,fst l x) else Kz t u x
 | _,_,_=>(nE,-1)
def AP (s:b_) (x:ByteArray):ByteArray:=(Kz words (names s) x).1
def JV (s:b_) (x:ByteArray):Int:=(Kz words (names s) x).2
abbrev Wy:ByteArray:=⟨#[99,114,101,97,116,101,100]⟩
abbrev WB:ByteArray:=⟨#[101,110,100,101,100]⟩
abbrev WE:ByteArray:=⟨#[105,110,115,105,100,101]⟩
abbrev WH:ByteArray:=⟨#[115,116,111,114,101,100]⟩
abbrev WC:ByteArray:=⟨#[101,110,116,101,114,101,100]⟩
abbrev WG:ByteArray:=⟨#[108,101,102,116]⟩
abbrev Wz:ByteArray:=⟨#[99,111,117,110,116,101,100]⟩
def Gm (w:ByteArray):ByteArray:=if w=Wy∨w=WB∨w=WE then mU else if w=WH∨w=WC∨w=WG then mV else if w=Wz then mR else nE
def rO (s:b_) (t:gU):Int:=if Gm t.wh=nE then 1 else if AP s t.nm=Gm t.wh then (if t.co=0 then 2 else if iX (-1000) t.co 1000 then 0 else 2) else 5
def xh (s:b_) (l:Lw):Int:=if l.ts.length=0 then 7 else dR (AY (rO s) 8 l.ts) (if iX (-1000000000000) l.tt 1000000000000 then 0 else 2)
def adQ (s:b_) (l:Lw):ByteArray×Int:=(l.nm,xh s l)
def EG (s:b_):Int:=(dh ek 32 (s.la.map (adQ s)) []).1
def Du (s:b_):Int:=dR (Cq idE (Li (kinds s) [])) (dR (AY (vS s.ro) 32 s.ss) (EG s))
def KZ (s:b_):ByteArray×Int:=(s.nm,Du s)
def qI (si:List b_) (x:ByteArray):Int:=fst (si.map (·.nm)) x
def AX (si:List b_) (l:gz):Int:=if qI si l.fr<0∨qI si l.tt<0 then 5 else if l.fr=l.tt then 1 else if iX 1 l.de 1000000000 then 0 else 2
def CQ (l:gz):List UInt8×List UInt8:=(bs l.fr,bs l.tt)
def qj (si:List b_) (acc:List (List UInt8×List UInt8)) (l:gz):Int×List (List UInt8×List UInt8):=
 if AX si l=0 then (if CQ l∈acc then (4,acc) else (0,acc++[CQ l])) else (AX si l,acc)
def GK (m:dx):Int:=(dh (qj m.si) 32 m.li []).1
def VS (m:dx):Int:=if m.si.length=0 then 7 else (dh ek 16 (m.si.map KZ) []).1
def U6 (m:dx):Int:=(dh ek 32 (m.pa.map Fw) []).1
def oZ (m:dx):Int:=dR (iK (bs m.nm)) (dR (U6 m) (dR (VS m) (GK m)))
def dF (x y:ByteArray):Bool:=decide (bs x=bs y)
def Cr (x y:dm):Bool:=dF x.fs y.fs&&kQ x.up y.up&&kQ x.dn y.dn
end Md
namespace Md
open Go.RowKit
set_option maxHeartbeats 4000000
def Bf (B u:Nat) (b:Nat):Prop:=b<u/\b≠B
end Md
end Go.Proofs.YtbgodajefaahdaaGreatDoor
