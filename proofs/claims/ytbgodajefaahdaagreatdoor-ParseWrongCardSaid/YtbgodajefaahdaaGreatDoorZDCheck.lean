/-
  Parts of this proof: The contracts of package dist's unused, checkLen. The contract of package dist's Check, at every d. Mathematics of statements. Mathematics of models. Mathematics of the text of models. The reference's lists of names.
-/
import Derived.Test.YtbgodajefaahdaaGreatDoorZNuMath
import Derived.Test.YtbgodajefaahdaaGreatDoorZBase
import Derived.Test.YtbgodajefaahdaaGreatDoorZNmMath
import Derived.Deep.MidRow
import Derived.Deep.WholeRow
set_option linter.unusedVariables false
open Go.Lib (hid)
namespace Go.Proofs.YtbgodajefaahdaaGreatDoor.Di
open Go.RowKit
set_option maxHeartbeats 2000000
def six (w:World) (b:Nat) (x0 x1 x2 x3 x4 x5:Value):Prop:=
 w.cell? ⟨b,0,none⟩=some x0/\w.cell? ⟨b,1,none⟩=some x1/\w.cell? ⟨b,2,none⟩=some x2/\w.cell? ⟨b,3,none⟩=some x3/\w.cell? ⟨b,4,none⟩=some x4/\w.cell? ⟨b,5,none⟩=some x5/\b<w.heap.size
def S6 (b:Nat) (x0 x1 x2 x3 x4 x5:Value) (w:World):Prop:=
 w.cell? ⟨b,0,none⟩=some x0/\w.cell? ⟨b,1,none⟩=some x1/\w.cell? ⟨b,2,none⟩=some x2/\w.cell? ⟨b,3,none⟩=some x3/\w.cell? ⟨b,4,none⟩=some x4/\w.cell? ⟨b,5,none⟩=some x5
section
variable {w w2:World} {b:Nat} {x0 x1 x2 x3 x4 x5:Value}
theorem six.call (h:six w b x0 x1 x2 x3 x4 x5) (hb:Below w.heap.size w w2):six w2 b x0 x1 x2 x3 x4 x5:=by
 obtain⟨h0,h1,h2,h3,h4,h5,h6⟩:=h;exact⟨(hb.cell (p:=⟨b,0,none⟩) h6).trans h0,(hb.cell (p:=⟨b,1,none⟩) h6).trans h1,(hb.cell (p:=⟨b,2,none⟩) h6).trans h2,(hb.cell (p:=⟨b,3,none⟩) h6).trans h3,
  (hb.cell (p:=⟨b,4,none⟩) h6).trans h4,(hb.cell (p:=⟨b,5,none⟩) h6).trans h5,Nat.lt_of_lt_of_le h6 hb.size⟩
theorem six.on (hb:Below w.heap.size w w2) (h:six w b x0 x1 x2 x3 x4 x5):six w2 b x0 x1 x2 x3 x4 x5:=h.call hb
theorem six.drew (h:six w b x0 x1 x2 x3 x4 x5):six w.drew b x0 x1 x2 x3 x4 x5:=h
theorem six.drewN (h:six w b x0 x1 x2 x3 x4 x5) (n:Nat):six (w.drewN n) b x0 x1 x2 x3 x4 x5:=h
theorem six.alloc {o:Obj} (h:six w b x0 x1 x2 x3 x4 x5):six (w.alloc o) b x0 x1 x2 x3 x4 x5:=h.call ((Below.refl _ _).alloc (Nat.le_refl _) o)
theorem six.new {t:TypeId}:six (w.alloc (.cells #[x0,x1,x2,x3,x4,x5] t)) w.heap.size x0 x1 x2 x3 x4 x5:=by
 refine⟨?_,?_,?_,?_,?_,?_,?_⟩ <;> first|(go_simp;done)|(simp;done)|(simp;omega)
theorem six.keep (h:six w b x0 x1 x2 x3 x4 x5):w.cell? ⟨b,0,none⟩=some x0/\w.cell? ⟨b,1,none⟩=some x1/\w.cell? ⟨b,2,none⟩=some x2/\w.cell? ⟨b,3,none⟩=some x3/\w.cell? ⟨b,4,none⟩=some x4/\w.cell? ⟨b,5,none⟩=some x5:=
 ⟨h.1,h.2.1,h.2.2.1,h.2.2.2.1,h.2.2.2.2.1,h.2.2.2.2.2.1⟩
end
theorem zAQ_4 {p:Prop} (h:p:=by simp[results,Tryz.results138,go_sem, *]):p:=h
theorem unused1 (a b n:Int) (p:Option Addr) (lv c:Nat) (q:Option Addr) (lw f:Nat) (w:World):Calls Tryz.prog 138 #[.agg #[.int .i64 1,.int .i64 a,.int .i64 b,.int .i64 n,.slice p lv c,.slice q lw f]] w (Gives (.agg #[.int .i64 1,.int .i64 0,.int .i64 b,.int .i64 n,.slice p lv c,.slice q lw f]) w):=by
 go_enter Tryz.func138,Tryz.ntmps138;go_wp2_with fail;exact bodyPost_ret (v:=.agg #[.int .i64 1,.int .i64 0,.int .i64 b,.int .i64 n,.slice p lv c,.slice q lw f]) zAQ_4 rfl ⟨rfl,bq⟩
theorem unused2 (a b n:Int) (p:Option Addr) (lv c:Nat) (q:Option Addr) (lw f:Nat) (w:World):Calls Tryz.prog 138 #[.agg #[.int .i64 2,.int .i64 a,.int .i64 b,.int .i64 n,.slice p lv c,.slice q lw f]] w (Gives (.agg #[.int .i64 2,.int .i64 0,.int .i64 0,.int .i64 n,.slice p lv c,.slice q lw f]) w):=by
 go_enter Tryz.func138,Tryz.ntmps138;go_wp2_with fail;exact bodyPost_ret (v:=.agg #[.int .i64 2,.int .i64 0,.int .i64 0,.int .i64 n,.slice p lv c,.slice q lw f]) zAQ_4 rfl ⟨rfl,bq⟩
theorem unused3 (a b n:Int) (p:Option Addr) (lv c:Nat) (q:Option Addr) (lw f:Nat) (w:World):Calls Tryz.prog 138 #[.agg #[.int .i64 3,.int .i64 a,.int .i64 b,.int .i64 n,.slice p lv c,.slice q lw f]] w (Gives (.agg #[.int .i64 3,.int .i64 a,.int .i64 b,.int .i64 n,.slice none 0 0,.slice none 0 0]) w):=by
 go_enter Tryz.func138,Tryz.ntmps138;go_wp2_with fail;exact bodyPost_ret (v:=.agg #[.int .i64 3,.int .i64 a,.int .i64 b,.int .i64 n,.slice none 0 0,.slice none 0 0]) zAQ_4 rfl ⟨rfl,bq⟩
theorem unused4 (a b n:Int) (p:Option Addr) (lv c:Nat) (q:Option Addr) (lw f:Nat) (w:World):Calls Tryz.prog 138 #[.agg #[.int .i64 4,.int .i64 a,.int .i64 b,.int .i64 n,.slice p lv c,.slice q lw f]] w (Gives (.agg #[.int .i64 4,.int .i64 0,.int .i64 0,.int .i64 0,.slice p lv c,.slice q lw f]) w):=by
 go_enter Tryz.func138,Tryz.ntmps138;go_wp2_with fail;exact bodyPost_ret (v:=.agg #[.int .i64 4,.int .i64 0,.int .i64 0,.int .i64 0,.slice p lv c,.slice q lw f]) zAQ_4 rfl ⟨rfl,bq⟩
theorem unused5 (a b n:Int) (p:Option Addr) (lv c:Nat) (q:Option Addr) (lw f:Nat) (w:World):Calls Tryz.prog 138 #[.agg #[.int .i64 5,.int .i64 a,.int .i64 b,.int .i64 n,.slice p lv c,.slice q lw f]] w (Gives (.agg #[.int .i64 5,.int .i64 0,.int .i64 0,.int .i64 n,.slice p lv c,.slice q lw f]) w):=by
 go_enter Tryz.func138,Tryz.ntmps138;go_wp2_with fail;exact bodyPost_ret (v:=.agg #[.int .i64 5,.int .i64 0,.int .i64 0,.int .i64 n,.slice p lv c,.slice q lw f]) zAQ_4 rfl ⟨rfl,bq⟩
def lenE (n m:Nat):Int:=if n=m then (if n=0 then 7 else if 20<n then 6 else 0) else 8
theorem zAQ_3 {p:Prop} (h:p:=by
 go_enter Tryz.func139,Tryz.ntmps139;go_wp2_with fail;go_ret;exact⟨rfl,rfl⟩
 ):p:=h
theorem lens_any (n m:Nat) (w:World):Calls Tryz.prog 139 #[.int .i64 n,.int .i64 m] w fun e w'=>e=.returned (.int .i64 (lenE n m))/\w=w':=by
 unfold lenE;by_cases h:n=m
 · subst h;rw[if_pos rfl];by_cases h0:n=0
   · subst h0;rw[if_pos rfl];exact zAQ_3
   · rw[if_neg h0];have h1:((n:Int)==0)=false:=by rw[beq_eq_false_iff_ne];omega
     by_cases h2:20<n
     · rw[if_pos h2];have h3:(20:Int)<(n:Int):=by omega
       clear h0;exact zAQ_3
     · rw[if_neg h2];have h3:(n:Int)<=20:=by omega
       clear h0;exact zAQ_3
 · rw[if_neg h];have h1:((n:Int) != (m:Int))=true:=by rw[bne_iff_ne];omega
   have h2:(n != m)=true:=by rw[bne_iff_ne];exact h
   exact zAQ_3
theorem zAQ_1 {p:Prop} (h:p:=by
 go_wp2_with fail
 (go_ret;exact⟨rfl,bq⟩)
 ):p:=h
theorem rng1 (a:Int) (x2 x3 x4 x5:Value) (w:World):Calls Tryz.prog 140 #[.agg #[.int .i64 1,.int .i64 a,x2,x3,x4,x5]] w (Gives (.bool (inB 0 a 1000000000)) w):=by
 go_enter Tryz.func140,Tryz.ntmps140;go_wp2_with fail;refine(btw_any _ _ _ _).mono ?_;rintro e w1 ⟨rfl,rfl⟩;exact zAQ_1
theorem zAQ_0 {p:Prop} (h:p:=by
 go_enter Tryz.func140,Tryz.ntmps140;go_wp2_with fail;refine(btw_any _ _ _ _).mono ?_;rintro e w1 ⟨rfl,rfl⟩;rw[H.out];exact zAQ_1
 ):p:=h
theorem rng2 (a b:Int) (x3 x4 x5:Value) (w:World):Calls Tryz.prog 140 #[.agg #[.int .i64 2,.int .i64 a,.int .i64 b,x3,x4,x5]] w (Gives (.bool (inB 0 a b&&decide (b<=1000000000))) w):=by
 cases h:inB 0 a b
 · have H:=hid h;clear h;rw[Bool.false_and];exact zAQ_0
 · have H:=hid h;clear h;rw[Bool.true_and];exact zAQ_0
theorem rng3 (x1 x2 x3:Value) (p:Option Addr) (lv c:Nat) (q:Option Addr) (lw f:Nat) (V W:Nat->Int) (w:World) (hV:Row w p lv V) (hW:Row w q lw W) :
 Calls Tryz.prog 140 #[.agg #[.int .i64 3,x1,x2,x3,.slice p lv c,.slice q lw f]] w (Gives (.bool (allB 0 1000000000 V lv&&allB 1 1000 W lw)) w):=by
 cases h:allB 0 1000000000 V lv
 · have H:=hid h;clear h;rw[Bool.false_and];go_enter Tryz.func140,Tryz.ntmps140;go_wp2_with fail;refine(allb_any _ _ _ _ _ V _ hV.alloc).mono ?_;rintro e w1 ⟨rfl,rfl⟩;rw[H.out];exact zAQ_1
 · have H:=hid h;clear h;rw[Bool.true_and];go_enter Tryz.func140,Tryz.ntmps140;go_wp2_with fail;refine(allb_any _ _ _ _ _ V _ hV.alloc).mono ?_;rintro e w1 ⟨rfl,rfl⟩;rw[H.out];go_wp2_with fail;refine(allb_any _ _ _ _ _ W _ hW.alloc).mono ?_;rintro e w1 ⟨rfl,rfl⟩;exact zAQ_1
theorem zAQ_2 {p:Prop} (h:p:=by
 go_enter Tryz.func140,Tryz.ntmps140;go_wp2_with fail;refine(btw_any _ _ _ _).mono ?_;rintro e w1 ⟨rfl,rfl⟩;rw[H.out];go_wp2_with fail;refine(btw_any _ _ _ _).mono ?_;rintro e w1 ⟨rfl,rfl⟩;rw[H2.out];exact zAQ_1
 ):p:=h
theorem rng4 (a b n:Int) (x4 x5:Value) (w:World):Calls Tryz.prog 140 #[.agg #[.int .i64 4,.int .i64 a,.int .i64 b,.int .i64 n,x4,x5]] w (Gives (.bool (inB 1 n 20&&inB 0 a b&&decide (b<=1000000))) w):=by
 cases h:inB 1 n 20
 · have H:=hid h;clear h;rw[Bool.false_and,Bool.false_and];exact zAQ_0
 · have H:=hid h;clear h;rw[Bool.true_and]
   cases h2:inB 0 a b
   · have H2:=hid h2;clear h2;rw[Bool.false_and];exact zAQ_2
   · have H2:=hid h2;clear h2;rw[Bool.true_and];exact zAQ_2
theorem rng5 (a b:Int) (x3 x4 x5:Value) (w:World):Calls Tryz.prog 140 #[.agg #[.int .i64 5,.int .i64 a,.int .i64 b,x3,x4,x5]] w (Gives (.bool (inB 1 a 1000&&inB 1 b 1000)) w):=by
 cases h:inB 1 a 1000
 · have H:=hid h;clear h;rw[Bool.false_and];exact zAQ_0
 · have H:=hid h;clear h;rw[Bool.true_and];go_enter Tryz.func140,Tryz.ntmps140;go_wp2_with fail;refine(btw_any _ _ _ _).mono ?_;rintro e w1 ⟨rfl,rfl⟩;rw[H.out];go_wp2_with fail;refine(btw_any _ _ _ _).mono ?_;rintro e w1 ⟨rfl,rfl⟩;exact zAQ_1
theorem check_out (op:Int) (x1 x2 x3 x4 x5:Value) (h:op<1∨5<op) (w:World):Calls Tryz.prog 91 #[.agg #[.int .i64 op,x1,x2,x3,x4,x5]] w (Gives (.int .i64 1) w):=by
 rcases h with h|h
 · have k1:decide (op<1)=true:=decide_eq_true h;go_enter Tryz.func91,Tryz.ntmps91;go_wp2_with fail
   go_quiet (fail)
   exact zAQ_1
 · have k1:decide (op<1)=false:=decide_eq_false (by omega);have k2:decide (5<op)=true:=decide_eq_true h;go_enter Tryz.func91,Tryz.ntmps91;go_wp2_with fail
   go_quiet (fail)
   exact zAQ_1
end Go.Proofs.YtbgodajefaahdaaGreatDoor.Di
namespace Go.Proofs.YtbgodajefaahdaaGreatDoor.Di
open Go.RowKit
set_option maxHeartbeats 2000000
def errW (op:Int) (u:Bool) (E:Int) (r:Bool):Int:=if u=true then (if op=3 then (if E=0 then (if r=true then 0 else 2) else E) else (if r=true then 0 else 2)) else 1
theorem zAR_0 {p:Prop} (h:p:=by
 go_enter Tryz.func91,Tryz.ntmps91;go_wp2_with fail;go_region_held3 (fun w'=>w'.cell? ⟨w.heap.size,0,none⟩=some (.int .i64 3)/\w'.cell? ⟨w.heap.size,1,none⟩=some (.int .i64 a)/\w'.cell? ⟨w.heap.size,2,none⟩=some (.int .i64 b)/\w'.cell? ⟨w.heap.size,3,none⟩=some (.int .i64 n)/\w'.cell? ⟨w.heap.size,4,none⟩=some (.slice p lv c)/\w'.cell? ⟨w.heap.size,5,none⟩=some (.slice q lw f)) (first|(with_reducible exact six.keep D2)|(with_reducible exact six.keep D1)|(with_reducible exact six.keep six.new.drew)|(with_reducible exact six.keep six.new)|(go_keep;done)) (first|(go_at_call 138;refine(U.out _).mono ?_;rintro e w1 ⟨rfl,hb1⟩;have D1:=six.on hb1 six.new.drew)|(go_at_call 137;refine(S.out _ bq).mono ?_;rintro e w2 ⟨rfl,hb2⟩;have D2:=six.on hb2 D1))
 all_goals
  obtain⟨d0,d1,d2,d3,d4,d5,d6⟩:=D2;have D2:six _ _ _ _ _ _ _ _:=⟨d0,d1,d2,d3,d4,d5,d6⟩
  go_wp2_with fail;refine(L.out _).mono ?_;rintro e w3 ⟨rfl,rfl⟩;go_wp2_with fail;refine(I.out _ bq).mono ?_;rintro e w4 ⟨rfl,hb4⟩;go_wp2_with fail;go_ret;exact⟨rfl,bq⟩
 ):p:=h
theorem zAR_1 {p:Prop} (h:p:=by
 go_enter Tryz.func91,Tryz.ntmps91;go_wp2_with fail;go_region_held3 (fun w'=>w'.cell? ⟨w.heap.size,0,none⟩=some (.int .i64 op)/\w'.cell? ⟨w.heap.size,1,none⟩=some (.int .i64 a)/\w'.cell? ⟨w.heap.size,2,none⟩=some (.int .i64 b)/\w'.cell? ⟨w.heap.size,3,none⟩=some (.int .i64 n)/\w'.cell? ⟨w.heap.size,4,none⟩=some (.slice p lv c)/\w'.cell? ⟨w.heap.size,5,none⟩=some (.slice q lw f)) (first|(with_reducible exact six.keep D2)|(with_reducible exact six.keep D1)|(with_reducible exact six.keep six.new.drew)|(with_reducible exact six.keep six.new)|(go_keep;done)) (first|(go_at_call 138;refine(U.out _).mono ?_;rintro e w1 ⟨rfl,hb1⟩;have D1:=six.on hb1 six.new.drew)|(go_at_call 137;refine(S.out _ bq).mono ?_;rintro e w2 ⟨rfl,hb2⟩;have D2:=six.on hb2 D1))
 all_goals
  obtain⟨d0,d1,d2,d3,d4,d5,d6⟩:=D2;have D2:six _ _ _ _ _ _ _ _:=⟨d0,d1,d2,d3,d4,d5,d6⟩
  go_wp2_with fail;refine(I.out _ bq).mono ?_;rintro e w4 ⟨rfl,hb4⟩;go_wp2_with fail;go_ret;exact⟨rfl,bq⟩
 ):p:=h
theorem check_in (op a b n:Int) (p:Option Addr) (lv c:Nat) (q:Option Addr) (lw f:Nat) (k1:decide (op<1)=false) (k5:decide (5<op)=false) (x:Value) (u r:Bool) (E:Int) (w:World)
 (U:Hid (∀w2,Calls Tryz.prog 138 #[.agg #[.int .i64 op,.int .i64 a,.int .i64 b,.int .i64 n,.slice p lv c,.slice q lw f]] w2 (Gives x w2)))
 (S:Hid (∀w2,Below w.heap.size w w2->Calls Tryz.prog 137 #[x,.agg #[.int .i64 op,.int .i64 0,.int .i64 0,.int .i64 0,.slice none 0 0,.slice none 0 0]] w2 (Gives (.bool u) w2)))
 (I:Hid (∀w2,Below w.heap.size w w2->Calls Tryz.prog 140 #[.agg #[.int .i64 op,.int .i64 a,.int .i64 b,.int .i64 n,.slice p lv c,.slice q lw f]] w2 (Gives (.bool r) w2)))
 (L:Hid (∀w2,Calls Tryz.prog 139 #[.int .i64 lv,.int .i64 lw] w2 fun e w'=>e=.returned (.int .i64 E)/\w2=w')) :
 Calls Tryz.prog 91 #[.agg #[.int .i64 op,.int .i64 a,.int .i64 b,.int .i64 n,.slice p lv c,.slice q lw f]] w (Gives (.int .i64 (errW op u E r)) w):=by
 unfold errW;cases u
 · rw[if_neg (by decide)];go_enter Tryz.func91,Tryz.ntmps91;go_wp2_with fail;go_region_held3 (fun w'=>w'.cell? ⟨w.heap.size,0,none⟩=some (.int .i64 op)/\w'.cell? ⟨w.heap.size,1,none⟩=some (.int .i64 a)/\w'.cell? ⟨w.heap.size,2,none⟩=some (.int .i64 b)/\w'.cell? ⟨w.heap.size,3,none⟩=some (.int .i64 n)/\w'.cell? ⟨w.heap.size,4,none⟩=some (.slice p lv c)/\w'.cell? ⟨w.heap.size,5,none⟩=some (.slice q lw f)) (first|(with_reducible exact six.keep D2)|(with_reducible exact six.keep D1)|(with_reducible exact six.keep six.new.drew)|(with_reducible exact six.keep six.new)|(go_keep;done)) (first|(go_at_call 138;refine(U.out _).mono ?_;rintro e w1 ⟨rfl,hb1⟩;have D1:=six.on hb1 six.new.drew)|(go_at_call 137;refine(S.out _ bq).mono ?_;rintro e w2 ⟨rfl,hb2⟩;have D2:=six.on hb2 D1))
   all_goals
    go_wp2_with fail;go_ret;exact⟨rfl,bq⟩
 · rw[if_pos rfl];by_cases h3:op=3
   · subst h3;rw[if_pos rfl];by_cases hE:E=0
     · subst hE;rw[if_pos rfl];cases r
       · rw[if_neg (by decide)];exact zAR_0
       · rw[if_pos rfl];exact zAR_0
     · rw[if_neg hE];have hE2:(E != 0)=true:=by rw[bne_iff_ne];exact hE
       clear hE;go_enter Tryz.func91,Tryz.ntmps91;go_wp2_with fail;go_region_held3 (fun w'=>w'.cell? ⟨w.heap.size,0,none⟩=some (.int .i64 3)/\w'.cell? ⟨w.heap.size,1,none⟩=some (.int .i64 a)/\w'.cell? ⟨w.heap.size,2,none⟩=some (.int .i64 b)/\w'.cell? ⟨w.heap.size,3,none⟩=some (.int .i64 n)/\w'.cell? ⟨w.heap.size,4,none⟩=some (.slice p lv c)/\w'.cell? ⟨w.heap.size,5,none⟩=some (.slice q lw f)) (first|(with_reducible exact six.keep D2)|(with_reducible exact six.keep D1)|(with_reducible exact six.keep six.new.drew)|(with_reducible exact six.keep six.new)|(go_keep;done)) (first|(go_at_call 138;refine(U.out _).mono ?_;rintro e w1 ⟨rfl,hb1⟩;have D1:=six.on hb1 six.new.drew)|(go_at_call 137;refine(S.out _ bq).mono ?_;rintro e w2 ⟨rfl,hb2⟩;have D2:=six.on hb2 D1))
       all_goals
        obtain⟨d0,d1,d2,d3,d4,d5,d6⟩:=D2;have D2:six _ _ _ _ _ _ _ _:=⟨d0,d1,d2,d3,d4,d5,d6⟩
        go_wp2_with fail;refine(L.out _).mono ?_;rintro e w3 ⟨rfl,rfl⟩;go_wp2_with fail;go_ret;exact⟨rfl,bq⟩
   · rw[if_neg h3];have h4:(op==3)=false:=by rw[beq_eq_false_iff_ne];exact h3
     clear h3;cases r
     · rw[if_neg (by decide)];exact zAR_1
     · rw[if_pos rfl];exact zAR_1
def unB (op a b n:Int) (lv lw:Nat):Bool:=
 if op=1 then b==0&&(n==0&&(lv==0&&lw==0))
 else if op=2 then n==0&&(lv==0&&lw==0)
 else if op=3 then a==0&&(b==0&&n==0)
 else if op=4 then lv==0&&lw==0
 else if op=5 then n==0&&(lv==0&&lw==0)
 else false
def rngB (op a b n:Int) (lv lw:Nat) (V W:Nat->Int):Bool:=
 if op=1 then inB 0 a 1000000000
 else if op=2 then inB 0 a b&&decide (b<=1000000000)
 else if op=3 then allB 0 1000000000 V lv&&allB 1 1000 W lw
 else if op=4 then inB 1 n 20&&inB 0 a b&&decide (b<=1000000)
 else inB 1 a 1000&&inB 1 b 1000
def errD (op a b n:Int) (lv lw:Nat) (V W:Nat->Int):Int:=errW op (unB op a b n lv lw) (lenE lv lw) (rngB op a b n lv lw V W)
theorem eqL_zero (m:Nat) (V Z:Nat->Int):eqL m 0 V Z=(m==0):=by
 unfold eqL
 cases h:(m==0)
 · rfl
 · rw[beq_iff_eq.1 h];rfl
theorem row_nil (w:World) (V:Nat->Int):Row w none 0 V:=⟨Nat.zero_le _,.inl rfl⟩
theorem same_nil (op a b n op2 a2 b2 n2:Int) (lv lw:Nat) (V W Z:Nat->Int):sameD op a b n lv lw V W op2 a2 b2 n2 0 0 Z Z=(op==op2&&(a==a2&&(b==b2&&(n==n2&&(lv==0&&lw==0))))):=by
 unfold sameD;rw[eqL_zero,eqL_zero]
def Z0 (_:Nat):Int:=0
theorem check_any (op a b n:Int) (p:Option Addr) (lv c:Nat) (q:Option Addr) (lw f:Nat) (V W:Nat->Int) (w:World) (hV:Row w p lv V) (hW:Row w q lw W):Calls Tryz.prog 91 #[.agg #[.int .i64 op,.int .i64 a,.int .i64 b,.int .i64 n,.slice p lv c,.slice q lw f]] w (Gives (.int .i64 (errD op a b n lv lw V W)) w):=by
 by_cases ho:op<1∨5<op
 · have e:errD op a b n lv lw V W=1:=by
    have:unB op a b n lv lw=false:=by unfold unB;rw[if_neg (by omega),if_neg (by omega),if_neg (by omega),if_neg (by omega),if_neg (by omega)]
    unfold errD errW;rw[this];rfl
   rw[e];exact check_out op _ _ _ _ _ ho w
 · have h:op=1∨op=2∨op=3∨op=4∨op=5:=by omega
   clear ho;rcases h with rfl|rfl|rfl|rfl|rfl
   · have S1:=fun(w2:World) (hb:Below w.heap.size w w2)=>same_any 1 0 b n p lv c q lw f V W 1 0 0 0 none 0 0 none 0 0 Z0 Z0 w2 (hV.on hb) (hW.on hb) (row_nil _ _) (row_nil _ _);simp only[same_nil] at S1;exact check_in 1 a b n p lv c q lw f (by decide) (by decide) _ _ _ _ w (hid (unused1 a b n p lv c q lw f)) (hid S1) (hid fun w2 _=>rng1 a _ _ _ _ w2) (hid (lens_any lv lw))
   · have S1:=fun(w2:World) (hb:Below w.heap.size w w2)=>same_any 2 0 0 n p lv c q lw f V W 2 0 0 0 none 0 0 none 0 0 Z0 Z0 w2 (hV.on hb) (hW.on hb) (row_nil _ _) (row_nil _ _);simp only[same_nil] at S1;exact check_in 2 a b n p lv c q lw f (by decide) (by decide) _ _ _ _ w (hid (unused2 a b n p lv c q lw f)) (hid S1) (hid fun w2 _=>rng2 a b _ _ _ w2) (hid (lens_any lv lw))
   · have S1:=fun(w2:World) (_:Below w.heap.size w w2)=>same_any 3 a b n none 0 0 none 0 0 Z0 Z0 3 0 0 0 none 0 0 none 0 0 Z0 Z0 w2 (row_nil _ _) (row_nil _ _) (row_nil _ _) (row_nil _ _);have e:unB 3 a b n lv lw=sameD 3 a b n 0 0 Z0 Z0 3 0 0 0 0 0 Z0 Z0:=by
      rw[same_nil];show(a==0&&(b==0&&n==0))=_
      simp
     unfold errD;rw[e];exact check_in 3 a b n p lv c q lw f (by decide) (by decide) _ _ _ _ w (hid (unused3 a b n p lv c q lw f)) (hid S1) (hid fun w2 hb=>rng3 _ _ _ p lv c q lw f V W w2 (hV.on hb) (hW.on hb)) (hid (lens_any lv lw))
   · have S1:=fun(w2:World) (hb:Below w.heap.size w w2)=>same_any 4 0 0 0 p lv c q lw f V W 4 0 0 0 none 0 0 none 0 0 Z0 Z0 w2 (hV.on hb) (hW.on hb) (row_nil _ _) (row_nil _ _);simp only[same_nil] at S1;exact check_in 4 a b n p lv c q lw f (by decide) (by decide) _ _ _ _ w (hid (unused4 a b n p lv c q lw f)) (hid S1) (hid fun w2 _=>rng4 a b n _ _ w2) (hid (lens_any lv lw))
   · have S1:=fun(w2:World) (hb:Below w.heap.size w w2)=>same_any 5 0 0 n p lv c q lw f V W 5 0 0 0 none 0 0 none 0 0 Z0 Z0 w2 (hV.on hb) (hW.on hb) (row_nil _ _) (row_nil _ _);simp only[same_nil] at S1;exact check_in 5 a b n p lv c q lw f (by decide) (by decide) _ _ _ _ w (hid (unused5 a b n p lv c q lw f)) (hid S1) (hid fun w2 _=>rng5 a b _ _ _ w2) (hid (lens_any lv lw))
end Go.Proofs.YtbgodajefaahdaaGreatDoor.Di
namespace Go.Proofs.YtbgodajefaahdaaGreatDoor.Sm
open Go.Proofs.YtbgodajefaahdaaGreatDoor.Na (bs bs_inj chk)
open Go.Proofs.YtbgodajefaahdaaGreatDoor.Ex (Ex chkE take_one)
structure Dt where
 op:Int
 a:Int
 b:Int
 n:Int
 vs:List Int
 ws:List Int
inductive St where
 | mk (o:Int) (nm f:ByteArray) (e g:Ex) (ar:List Ex) (di:Dt) (fl:Bool) (bo el:List St)
def St.o:St->Int
 | .mk o _ _ _ _ _ _ _ _ _=>o
def St.nm:St->ByteArray
 | .mk _ nm _ _ _ _ _ _ _ _=>nm
def St.f:St->ByteArray
 | .mk _ _ f _ _ _ _ _ _ _=>f
def St.e:St->Ex
 | .mk _ _ _ e _ _ _ _ _ _=>e
def St.g:St->Ex
 | .mk _ _ _ _ g _ _ _ _ _=>g
def St.ar:St->List Ex
 | .mk _ _ _ _ _ ar _ _ _ _=>ar
def St.di:St->Dt
 | .mk _ _ _ _ _ _ di _ _ _=>di
def St.fl:St->Bool
 | .mk _ _ _ _ _ _ _ fl _ _=>fl
def St.bo:St->List St
 | .mk _ _ _ _ _ _ _ _ bo _=>bo
def St.el:St->List St
 | .mk _ _ _ _ _ _ _ _ _ el=>el
mutual
def cn:St->Nat
 | .mk _ _ _ _ _ _ _ _ bo el=>cnL bo+cnL el+1
def cnL:List St->Nat
 | []=>0
 | x::t=>cn x+cnL t
end
mutual
def dp:St->Nat
 | .mk _ _ _ _ _ _ _ _ bo el=>max (dpL bo) (dpL el)+1
def dpL:List St->Nat
 | []=>0
 | x::t=>max (dp x) (dpL t)
end
mutual
def ord:St->List St
 | .mk o nm f e g ar di fl bo el=>.mk o nm f e g ar di fl bo el::(ordL bo++ordL el)
def ordL:List St->List St
 | []=>[]
 | x::t=>ord x++ordL t
end
def sz0 (e g:Ex) (ar:List Ex) (di:Dt):Nat:=1+Ex.cnt e+Ex.cnt g+di.vs.length+di.ws.length+Ex.cntL ar
mutual
def sz:St->Nat
 | .mk _ _ _ e g ar di _ bo el=>sz0 e g ar di+szL bo+szL el
def szL:List St->Nat
 | []=>0
 | x::t=>sz x+szL t
end
theorem cn_one (x:St):cn x=cnL x.bo+cnL x.el+1:=by obtain⟨o,nm,f,e,g,ar,di,fl,bo,el⟩:=x;rw[cn];rfl
theorem dp_one (x:St):dp x=max (dpL x.bo) (dpL x.el)+1:=by obtain⟨o,nm,f,e,g,ar,di,fl,bo,el⟩:=x;rw[dp];rfl
theorem ord_one (x:St):ord x=x::(ordL x.bo++ordL x.el):=by obtain⟨o,nm,f,e,g,ar,di,fl,bo,el⟩:=x;rw[ord];rfl
theorem cn_pos (x:St):1<=cn x:=by rw[cn_one];omega
theorem dpL_cons (x:St) (t:List St):dpL (x::t)=max (dp x) (dpL t):=by rw[dpL]
theorem cnL_app:∀a b:List St,cnL (a++b)=cnL a+cnL b
 | [],b=>by simp[cnL]
 | x::t,b=>by simp only[List.cons_append,cnL,cnL_app t b];omega
theorem dpL_app:∀a b:List St,dpL (a++b)=max (dpL a) (dpL b)
 | [],b=>by simp[dpL]
 | x::t,b=>by simp only[List.cons_append,dpL,dpL_app t b];omega
theorem ordL_app:∀a b:List St,ordL (a++b)=ordL a++ordL b
 | [],b=>rfl
 | x::t,b=>by simp only[List.cons_append,ordL,ordL_app t b,List.append_assoc]
theorem cnL_take {l:List St} {k:Nat} {x:St} (h:l[k]?=some x):cnL (l.take (k+1))=cnL (l.take k)+cn x:=by rw[take_one h,cnL_app];simp[cnL]
theorem ordL_take {l:List St} {k:Nat} {x:St} (h:l[k]?=some x):ordL (l.take (k+1))=ordL (l.take k)++ord x:=by rw[take_one h,ordL_app];simp[ordL]
theorem cnL_le (l:List St) (k:Nat):cnL (l.take k)<=cnL l:=by
 have:=cnL_app (l.take k) (l.drop k);rw[List.take_append_drop] at this;omega
theorem dpL_le (l:List St) (k:Nat):dpL (l.take k)<=dpL l:=by
 have:=dpL_app (l.take k) (l.drop k);rw[List.take_append_drop] at this;omega
theorem cn_mem:∀{l:List St} {x:St},x∈l->cn x<=cnL l
 | [],x,h=>by cases h
 | y::t,x,h=>by
  unfold cnL;rcases List.mem_cons.1 h with rfl|h
  · omega
  · have:=cn_mem h;omega
theorem ordL_mem:∀{l:List St} {x y:St},x∈l->y∈ord x->y∈ordL l
 | [],x,y,h,_=>by cases h
 | z::t,x,y,h,g=>by
  unfold ordL;rcases List.mem_cons.1 h with rfl|h
  · exact List.mem_append_left _ g
  · exact List.mem_append_right _ (ordL_mem h g)
theorem ord_self (x:St):x∈ord x:=by rw[ord_one];exact List.mem_cons_self
theorem ordL_self {l:List St} {x:St} (h:x∈l):x∈ordL l:=ordL_mem h (ord_self x)
theorem ord_bo {x y:St} (h:y∈ordL x.bo):y∈ord x:=by rw[ord_one];exact List.mem_cons_of_mem _ (List.mem_append_left _ h)
theorem ord_el {x y:St} (h:y∈ordL x.el):y∈ord x:=by rw[ord_one];exact List.mem_cons_of_mem _ (List.mem_append_right _ h)
theorem St.ind {P:St->Prop} (h:∀x:St,(∀y∈x.bo,P y)->(∀y∈x.el,P y)->P x) (x:St):P x:=by
 have:∀k x,cn x<=k->P x:=by
  intro k
  induction k with
  | zero=>intro x hx;have:=cn_pos x;omega
  | succ k ih=>
   intro x hx;rw[cn_one] at hx;exact h x (fun y hy=>ih y (by have:=cn_mem hy;omega)) (fun y hy=>ih y (by have:=cn_mem hy;omega))
 exact this _ x (Nat.le_refl _)
theorem lst_ind {Q:List St->Prop} (h:∀sl:List St,(∀x∈sl,Q x.bo/\Q x.el)->Q sl) (sl:List St):Q sl:=by
 have:∀k sl,cnL sl<=k->Q sl:=by
  intro k
  induction k with
  | zero=>
   intro sl hs;refine h sl fun x hx=>?_;have:=cn_mem hx;have:=cn_pos x;omega
  | succ k ih=>
   intro sl hs;refine h sl fun x hx=>?_;have h1:=cn_mem hx;rw[cn_one] at h1;exact⟨ih _ (by omega),ih _ (by omega)⟩
 exact this _ sl (Nat.le_refl _)
def inL:List St->Nat
 | []=>0
 | x::t=>max (max (dpL x.bo) (dpL x.el)) (inL t)
theorem dpL_inL:∀{l:List St},0<l.length->dpL l=inL l+1
 | [x],_=>by simp only[dpL,inL,dp_one];omega
 | x::y::t,_=>by
  have:=dpL_inL (l:=y::t) (by simp);rw[dpL_cons,this,dp_one,show inL (x::y::t)=max (max (dpL x.bo) (dpL x.el)) (inL (y::t)) from rfl];omega
theorem inL_app:∀a b:List St,inL (a++b)=max (inL a) (inL b)
 | [],b=>by simp[inL]
 | x::t,b=>by simp only[List.cons_append,inL,inL_app t b];omega
theorem inL_take {l:List St} {k:Nat} {x:St} (h:l[k]?=some x):inL (l.take (k+1))=max (inL (l.take k)) (max (dpL x.bo) (dpL x.el)):=by rw[take_one h,inL_app];simp[inL]
theorem inL_le:∀l:List St,inL l<=dpL l
 | []=>Nat.le_refl _
 | x::t=>by rw[dpL_inL (by simp)];omega
theorem ordL_len_of:∀{l:List St},(∀x∈l,(ord x).length=cn x)->(ordL l).length=cnL l
 | [],_=>rfl
 | x::t,h=>by rw[ordL,cnL,List.length_append,h x List.mem_cons_self,ordL_len_of fun y hy=>h y (List.mem_cons_of_mem _ hy)]
theorem ord_len (x:St):(ord x).length=cn x:=by
 induction x using St.ind with
 | h x h1 h2=>
  rw[ord_one,cn_one,List.length_cons,List.length_append,ordL_len_of h1,ordL_len_of h2]
theorem ordL_len (l:List St):(ordL l).length=cnL l:=ordL_len_of fun x _=>ord_len x
theorem dpL_le_cnL_of:∀{l:List St},(∀x∈l,dp x<=cn x)->dpL l<=cnL l
 | [],_=>Nat.le_refl _
 | x::t,h=>by
  have h1:=h x List.mem_cons_self;have h2:=dpL_le_cnL_of fun y hy=>h y (List.mem_cons_of_mem _ hy);rw[dpL,cnL];omega
theorem dp_le_cn (x:St):dp x<=cn x:=by
 induction x using St.ind with
 | h x h1 h2=>
  have a:=dpL_le_cnL_of h1;have b:=dpL_le_cnL_of h2;rw[dp_one,cn_one];omega
theorem dpL_le_cnL (l:List St):dpL l<=cnL l:=dpL_le_cnL_of fun x _=>dp_le_cn x
theorem inL_cap (l:List St) (k:Nat):inL (l.take k)<=cnL l:=Nat.le_trans (inL_le _) (Nat.le_trans (dpL_le l k) (dpL_le_cnL l))
def sameDt (x y:Dt):Bool:=decide (x.op=y.op)&&(decide (x.a=y.a)&&(decide (x.b=y.b)&&(decide (x.n=y.n)&&(decide (x.vs=y.vs)&&decide (x.ws=y.ws)))))
theorem sameDt_iff {x y:Dt}:sameDt x y=true↔x=y:=by
 obtain⟨a,b,c,d,e,f⟩:=x;obtain⟨a',b',c',d',e',f'⟩:=y;simp[sameDt]
def same0 (x y:St):Bool:=decide (x.o=y.o)&&decide (bs x.nm=bs y.nm)&&decide (bs x.f=bs y.f)&&(x.fl==y.fl)&&Ex.same x.e y.e&&Ex.same x.g y.g&&Ex.sameL x.ar y.ar&&sameDt x.di y.di
mutual
def sameS:St->St->Bool
 | .mk o nm f e g ar di fl bo el,y=>same0 (.mk o nm f e g ar di fl bo el) y&&sameSL bo y.bo&&sameSL el y.el
def sameSL:List St->List St->Bool
 | [],[]=>true
 | x::t,y::u=>sameS x y&&sameSL t u
 | [],_::_=>false
 | _::_,[]=>false
end
theorem sameS_one (x y:St):sameS x y=(same0 x y&&sameSL x.bo y.bo&&sameSL x.el y.el):=by obtain⟨o,nm,f,e,g,ar,di,fl,bo,el⟩:=x;rw[sameS];rfl
theorem sameSL_cons (x y:St) (t u:List St):sameSL (x::t) (y::u)=(sameS x y&&sameSL t u):=by rw[sameSL]
theorem sameSL_eq_of:∀{l m:List St},(∀x∈l,∀y,sameS x y=true↔x=y)->(sameSL l m=true↔l=m)
 | [],[],_=>by simp[sameSL]
 | x::t,y::u,h=>by
  rw[sameSL_cons,Bool.and_eq_true,h x List.mem_cons_self y,sameSL_eq_of fun z hz=>h z (List.mem_cons_of_mem _ hz),List.cons.injEq]
 | [],_::_,_=>by simp[sameSL]
 | _::_,[],_=>by simp[sameSL]
theorem sameS_iff (x:St):∀y,sameS x y=true↔x=y:=by
 induction x using St.ind with
 | h x h1 h2=>
  intro y;rw[sameS_one,Bool.and_eq_true,Bool.and_eq_true,sameSL_eq_of h1,sameSL_eq_of h2];obtain⟨o,nm,f,e,g,ar,di,fl,bo,el⟩:=x;obtain⟨o',nm',f',e',g',ar',di',fl',bo',el'⟩:=y;simp only[same0,Bool.and_eq_true,decide_eq_true_eq,beq_iff_eq,sameDt_iff,Ex.same_iff];simp only[St.o,St.nm,St.f,St.e,St.g,St.ar,St.di,St.fl,St.bo,St.el,St.mk.injEq];have e1:bs nm=bs nm'↔nm=nm':=⟨bs_inj,fun h=>by rw[h]⟩
  have e2:bs f=bs f'↔f=f':=⟨bs_inj,fun h=>by rw[h]⟩
  have e3:Ex.sameL ar ar'=true↔ar=ar':=⟨Ex.sameL_eq,fun h=>by rw[h];exact Ex.sameL_self _⟩
  rw[e1,e2,e3];constructor
  · rintro⟨⟨⟨⟨⟨⟨⟨⟨⟨q1,q2⟩,q3⟩,q4⟩,q5⟩,q6⟩,q7⟩,q8⟩,q9⟩,q10⟩;exact⟨q1,q2,q3,q5,q6,q7,q8,q4,q9,q10⟩
  · rintro⟨q1,q2,q3,q5,q6,q7,q8,q4,q9,q10⟩;exact⟨⟨⟨⟨⟨⟨⟨⟨⟨q1,q2⟩,q3⟩,q4⟩,q5⟩,q6⟩,q7⟩,q8⟩,q9⟩,q10⟩
theorem sameSL_iff {l m:List St}:sameSL l m=true↔l=m:=sameSL_eq_of fun x _=>sameS_iff x
theorem sameSL_self (l:List St):sameSL l l=true:=sameSL_iff.2 rfl
theorem sameSL_len {a b:List St} (h:¬a.length=b.length):sameSL a b=false:=by
 cases g:sameSL a b with
 | false=>rfl
 | true=>exact absurd (by rw[sameSL_iff.1 g]) h
theorem sameSL_stop {l l2:List St} {k:Nat} {x y:St} (hx:l[k]?=some x) (hy:l2[k]?=some y) (h:sameS x y=false):sameSL l l2=false:=by
 cases g:sameSL l l2 with
 | false=>rfl
 | true=>
  have:=sameSL_iff.1 g;subst this;rw[hx] at hy;cases hy
  rw[(sameS_iff x x).2 rfl] at h;cases h
theorem takeS_same {l l2:List St} {k:Nat} {x y:St} (hx:l[k]?=some x) (hy:l2[k]?=some y) (h:sameS x y=true) (g:l.take k=l2.take k):l.take (k+1)=l2.take (k+1):=by rw[take_one hx,take_one hy,(sameS_iff x y).1 h,g]
def kn (o:Int):Bool:=decide (1<=o)&&decide (o<=18)
def uN (o:Int):Bool:=decide (o=1∨o=2∨o=6∨o=7∨o=8∨o=9∨o=10∨o=11∨o=12∨o=13∨o=14∨o=15∨o=16∨o=17)
def uO (o:Int):Bool:=decide (o=2∨o=9∨o=13)
def uE (o:Int):Bool:=decide (o=1∨o=3∨o=4∨o=5∨o=6∨o=7∨o=8∨o=12∨o=13∨o=14∨o=15∨o=16∨o=17)
def uF (o:Int):Bool:=decide (o=6)
def uA (o:Int):Bool:=decide (o=13∨o=14)
def uD (o:Int):Bool:=decide (o=2)
def uG (o:Int):Bool:=decide (o=6)
def uB (o:Int):Bool:=decide (o=3∨o=4)
def uL (o:Int):Bool:=decide (o=3)
abbrev nE:ByteArray:=⟨#[]⟩
def zE:Ex:=.mk 0 nE 0 []
def zD:Dt:=⟨0,0,0,0,[],[]⟩
def frm (x:St):Bool:=(uN x.o||decide (bs x.nm=[]))&&(uO x.o||decide (bs x.f=[]))&&(uE x.o||Ex.same x.e zE)&&(uF x.o||Ex.same x.g zE)&&(uA x.o||decide (x.ar.length=0))&&(uD x.o||sameDt x.di zD)&&(uG x.o || !x.fl)&&(uB x.o||decide (x.bo.length=0))&&(uL x.o||decide (x.el.length=0))
def orE (a b:Int):Int:=if a=0 then b else a
def onE (u:Bool) (v:Int):Int:=if u then v else 0
def badA:List Ex->Int
 | []=>0
 | x::t=>orE (chkE false x) (badA t)
def argE (l:List Ex):Int:=if 6<l.length then 6 else badA l
def dtE (d:Dt):Int:=Di.errD d.op d.a d.b d.n d.vs.length d.ws.length (fun i=>d.vs.getD i 0) (fun i=>d.ws.getD i 0)
def restE (x:St):Int:=orE (onE (uN x.o) (chk (bs x.nm))) (orE (onE (uO x.o) (chk (bs x.f))) (orE (onE (uE x.o) (chkE false x.e)) (orE (onE (uF x.o) (chkE false x.g)) (orE (onE (uA x.o) (argE x.ar)) (onE (uD x.o) (dtE x.di))))))
def oneE (x:St):Int:=if kn x.o&&frm x then restE x else 1
def badS:List St->Int
 | []=>0
 | x::t=>orE (oneE x) (badS t)
theorem orE_no {a b:Int} (h:¬a=0):orE a b=a:=if_neg h
theorem orE_yes {b:Int}:orE 0 b=b:=if_pos rfl
theorem orE_right (a:Int):orE a 0=a:=by unfold orE;split <;> simp_all
theorem orE_assoc (a b c:Int):orE (orE a b) c=orE a (orE b c):=by unfold orE;split <;> simp_all
theorem badA_app:∀a b:List Ex,badA (a++b)=orE (badA a) (badA b)
 | [],b=>orE_yes.symm
 | x::t,b=>by rw[List.cons_append,badA,badA,badA_app t b,orE_assoc]
theorem badA_take {l:List Ex} {k:Nat} {x:Ex} (h:l[k]?=some x):badA (l.take (k+1))=orE (badA (l.take k)) (chkE false x):=by rw[take_one h,badA_app];simp[badA,orE_right]
theorem badA_stop {l:List Ex} {k:Nat} {x:Ex} (h:l[k]?=some x) (h0:badA (l.take k)=0) (h1:¬chkE false x=0):badA l=chkE false x:=by
 have h2:=badA_app (l.take (k+1)) (l.drop (k+1));rw[List.take_append_drop,badA_take h,h0,orE_yes,orE_no h1] at h2;exact h2
theorem badS_app:∀a b:List St,badS (a++b)=orE (badS a) (badS b)
 | [],b=>orE_yes.symm
 | x::t,b=>by rw[List.cons_append,badS,badS,badS_app t b,orE_assoc]
theorem badS_snoc {l:List St} {x:St} (h:badS l=0):badS (l++[x])=oneE x:=by rw[badS_app,h,orE_yes,badS,badS,orE_right]
def chkL (l:List St):Int:=if 200<cnL l then 6 else if 12<dpL l then 11 else badS (ordL l)
end Go.Proofs.YtbgodajefaahdaaGreatDoor.Sm
namespace Go.Proofs.YtbgodajefaahdaaGreatDoor.Md
open Go.Proofs.YtbgodajefaahdaaGreatDoor.Na (bs bs_inj chk fst fst_ge)
open Go.Proofs.YtbgodajefaahdaaGreatDoor.Sm (St Dt sameDt chkL dtE orE orE_no orE_yes zD nE)
instance byteEq:DecidableEq ByteArray:=fun a b=>if h:bs a=bs b then isTrue (bs_inj h) else isFalse (fun e=>h (by rw[e]))
structure Val where
 nm:ByteArray
 ty:Int
 n:Int
structure Chg where
 t:Int
 u:Int
structure Res where
 nm:ByteArray
 un:Int
 sh:List Chg
 cy:Int
 fs:ByteArray
 up:Dt
 dn:Dt
structure Sto where
 nm:ByteArray
 rm:Int
 po:Int
structure Blt where
 nm:ByteArray
 ln:Int
 sp:Int
structure Fld where
 nm:ByteArray
 ty:Int
structure Rou where
 nm:ByteArray
 ps:List Fld
 ls:List Fld
 bo:List St
structure Sta where
 ro:ByteArray
 ar:List Int
 a:Int
 e:Int
 u:Int
structure Trm where
 co:Int
 wh:ByteArray
 nm:ByteArray
structure Lw where
 nm:ByteArray
 ts:List Trm
 tt:Int
structure Lnk where
 fr:ByteArray
 tt:ByteArray
 de:Int
structure Ste where
 nm:ByteArray
 va:List Val
 rs:List Res
 st:List Sto
 be:List Blt
 qu:List ByteArray
 sm:List ByteArray
 ta:List ByteArray
 le:List ByteArray
 co:List ByteArray
 ro:List Rou
 ss:List Sta
 la:List Lw
structure Mdl where
 nm:ByteArray
 pa:List Val
 si:List Ste
 li:List Lnk
theorem fst_cons (x s:ByteArray) (t:List ByteArray):fst (x::t) s=if bs x=bs s then 0 else if fst t s = -1 then -1 else fst t s+1:=rfl
theorem fst_in {s:ByteArray}:∀{l:List ByteArray},0<=fst l s↔s∈l
 | []=>by
  have:fst [] s = -1:=rfl;rw[this];constructor
  · intro h;omega
  · intro h;cases h
 | x::t=>by
  have ih:=fst_in (s:=s) (l:=t);have h0:=fst_ge s t;rw[fst_cons,List.mem_cons];by_cases h:bs x=bs s
  · rw[if_pos h];exact⟨fun _=>.inl (bs_inj h).symm,fun _=>Int.le_refl _⟩
  · rw[if_neg h];have hne:¬s=x:=fun e=>h (by rw[e]);constructor
    · intro g
      split at g
      · omega
      · exact .inr (ih.1 (by omega))
    · rintro(g|g)
      · exact absurd g hne
      · have:=ih.2 g
        split <;> omega
instance memDec (x:ByteArray) (l:List ByteArray):Decidable (x∈l):=decidable_of_iff _ fst_in
def decE (acc:List ByteArray) (x:ByteArray):Int:=orE (chk (bs x)) (if x∈acc then 4 else 0)
def stepN (acc:List ByteArray) (p:ByteArray×Int):Int×List ByteArray:=(orE (decE acc p.1) p.2,if decE acc p.1=0 then acc++[p.1] else acc)
def goE {α σ:Type} (f:σ->α->Int×σ):List α->σ->Int×σ
 | [],s=>(0,s)
 | x::t,s=>if (f s x).1=0 then goE f t (f s x).2 else f s x
def eachE {α σ:Type} (f:σ->α->Int×σ) (most:Nat) (l:List α) (s:σ):Int×σ:=if most<l.length then (6,s) else goE f l s
theorem goE_app {α σ:Type} {f:σ->α->Int×σ}:∀{a b:List α} {s:σ},goE f (a++b) s=if (goE f a s).1=0 then goE f b (goE f a s).2 else goE f a s
 | [],b,s=>by simp[goE]
 | x::t,b,s=>by
  rw[List.cons_append,goE,goE,goE_app];by_cases h:(f s x).1=0
  · rw[if_pos h,if_pos h]
  · rw[if_neg h,if_neg h,if_neg h]
theorem goE_one {α σ:Type} {f:σ->α->Int×σ} {x:α} {s:σ}:goE f [x] s=f s x:=by
 rw[goE];by_cases h:(f s x).1=0
 · rw[if_pos h,goE];exact Prod.ext h.symm rfl
 · rw[if_neg h]
theorem goE_take {α σ:Type} {f:σ->α->Int×σ} {l:List α} {k:Nat} {x:α} {s r:σ} (hx:l[k]?=some x) (h:goE f (l.take k) s=(0,r)):goE f (l.take (k+1)) s=f r x:=by
 rw[Go.Proofs.YtbgodajefaahdaaGreatDoor.Ex.take_one hx,goE_app,h,goE_one];rfl
theorem goE_stop {α σ:Type} {f:σ->α->Int×σ} {l:List α} {k:Nat} {x:α} {s r:σ} (hx:l[k]?=some x) (h:goE f (l.take k) s=(0,r)) (h1:¬(f r x).1=0):goE f l s=f r x:=by
 have h2:=goE_app (f:=f) (a:=l.take (k+1)) (b:=l.drop (k+1)) (s:=s);rw[List.take_append_drop,goE_take hx h,if_neg h1] at h2;exact h2
theorem goE_next {α σ:Type} {f:σ->α->Int×σ} {l:List α} {k:Nat} {x:α} {s r:σ} (hx:l[k]?=some x) (h:goE f (l.take k) s=(0,r)) (h1:(f r x).1=0):goE f (l.take (k+1)) s=(0,(f r x).2):=by
 rw[goE_take hx h];exact Prod.ext h1 rfl
theorem goE_map {α β σ:Type} {f:σ->β->Int×σ} {g:α->β}:∀{l:List α} {s:σ},goE f (l.map g) s=goE (fun s x=>f s (g x)) l s
 | [],s=>rfl
 | x::t,s=>by rw[List.map_cons,goE,goE,goE_map]
theorem eachE_map {α β σ:Type} {f:σ->β->Int×σ} {g:α->β} {most:Nat} {l:List α} {s:σ}:eachE f most (l.map g) s=eachE (fun s x=>f s (g x)) most l s:=by
 unfold eachE;rw[List.length_map,goE_map]
def frE {α:Type} (f:α->Int):List α->Int
 | []=>0
 | x::t=>orE (f x) (frE f t)
def lstE {α:Type} (f:α->Int) (most:Nat) (l:List α):Int:=if most<l.length then 6 else frE f l
theorem goE_pure {α:Type} {f:α->Int}:∀{l:List α},goE (fun(_:Unit) x=>(f x,())) l ()=(frE f l,())
 | []=>rfl
 | x::t=>by
  rw[goE,frE,goE_pure];by_cases h:f x=0
  · rw[if_pos h,h,orE_yes]
  · rw[if_neg h,orE_no h]
theorem eachE_pure {α:Type} {f:α->Int} {most:Nat} {l:List α}:eachE (fun(_:Unit) x=>(f x,())) most l ()=(lstE f most l,()):=by
 unfold eachE lstE;by_cases h:most<l.length
 · rw[if_pos h,if_pos h]
 · rw[if_neg h,if_neg h,goE_pure]
def btw (lo n hi:Int):Bool:=decide (lo<=n)&&decide (n<=hi)
def typ (t:Int):Bool:=decide (t=1)||decide (t=2)||decide (t=3)
def fits (t n:Int):Bool:=if t=1 then btw (-1000000000000) n 1000000000000 else if t=2 then btw 0 n 1 else if t=3 then btw 0 n 1000000000 else false
def isT (n:Int):Bool:=btw 0 n 1000000000
def isU (n:Int):Bool:=btw 0 n 1000
def valT (v:Val):Int:=if typ v.ty then (if fits v.ty v.n then 0 else 2) else 1
def fldT (f:Fld):Int:=if typ f.ty then 0 else 1
def chgE (cy:Int) (prev:Option Chg) (c:Chg):Int:=
 if btw 0 c.t (cy-1)&&isU c.u then (match prev with|none=>0|some d=>if c.t<=d.t then 12 else 0) else 2
def chgL (cy:Int):Option Chg->List Chg->Int
 | _,[]=>0
 | p,c::t=>orE (chgE cy p c) (chgL cy (some c) t)
def schE (l:List Chg) (cy:Int):Int:=
 if l.length=0 then (if cy=0 then 0 else 1) else if 20<l.length then 6 else if btw 1 cy 1000000000 then chgL cy none l else 2
def fltE (r:Res) (sm:List ByteArray):Int:=
 if bs r.fs=[] then (if sameDt r.up zD&&sameDt r.dn zD then 0 else 1) else if fst sm r.fs<0 then 5 else orE (dtE r.up) (dtE r.dn)
def resT (sm:List ByteArray) (r:Res):Int:=if isU r.un then orE (schE r.sh r.cy) (fltE r sm) else 2
def stoT (d:Sto):Int:=if btw 1 d.rm 1000 then (if btw 1 d.po 3 then 0 else 1) else 2
def bltT (b:Blt):Int:=if btw 1 b.ln 1000&&btw 1 b.sp 1000 then 0 else 2
def fldP (f:Fld):ByteArray×Int:=(f.nm,fldT f)
def rouT (r:Rou):Int:=if 6<r.ps.length then 6 else orE (eachE (fun a f=>stepN a (fldP f)) 16 (r.ps++r.ls) []).1 (chkL r.bo)
def valP (v:Val):ByteArray×Int:=(v.nm,valT v)
def resP (sm:List ByteArray) (r:Res):ByteArray×Int:=(r.nm,resT sm r)
def stoP (d:Sto):ByteArray×Int:=(d.nm,stoT d)
def bltP (b:Blt):ByteArray×Int:=(b.nm,bltT b)
def txtP (x:ByteArray):ByteArray×Int:=(x,0)
def rouP (r:Rou):ByteArray×Int:=(r.nm,rouT r)
def kinds (s:Ste):List (Nat×List (ByteArray×Int)):=[(32,s.va.map valP),(32,s.rs.map (resP s.sm)),(32,s.st.map stoP),(32,s.be.map bltP),(32,s.qu.map txtP),(32,s.sm.map txtP),(32,s.ta.map txtP),(32,s.le.map txtP),(32,s.co.map txtP),(16,s.ro.map rouP)]
def thr:List (Nat×List (ByteArray×Int))->List ByteArray->List Int
 | [],_=>[]
 | k::t,acc=>(eachE stepN k.1 k.2 acc).1::thr t (eachE stepN k.1 k.2 acc).2
def idE (x:Int):Int:=x
def fitL:List Fld->List Int->Bool
 | p::t,n::u=>fits p.ty n&&fitL t u
 | _,_=>true
def rouI (ro:List Rou) (x:ByteArray):Int:=fst (ro.map (·.nm)) x
def staE (ro:List Rou) (d:Sta):Int:=
 match (if rouI ro d.ro<0 then none else ro[(rouI ro d.ro).toNat]?) with
 | none=>5
 | some r=>if d.ar.length=r.ps.length then (if fitL r.ps d.ar then (if isT d.a&&isT d.e&&isT d.u && !(decide (d.e=0) && !decide (d.u=0)) then 0 else 2) else 2) else 8
def names (s:Ste):List (List ByteArray):=[s.va.map (·.nm),s.rs.map (·.nm),s.st.map (·.nm),s.be.map (·.nm),s.qu,s.sm,s.ta,s.le,s.co,s.ro.map (·.nm)]
abbrev tVar:ByteArray:=⟨#[118,97,114]⟩
abbrev tRes:ByteArray:=⟨#[114,101,115,111,117,114,99,101]⟩
abbrev tSto:ByteArray:=⟨#[115,116,111,114,101]⟩
abbrev tBlt:ByteArray:=⟨#[98,101,108,116]⟩
abbrev tQue:ByteArray:=⟨#[113,117,101,117,101]⟩
abbrev tStr:ByteArray:=⟨#[115,116,114,101,97,109]⟩
abbrev tTal:ByteArray:=⟨#[116,97,108,108,121]⟩
abbrev tLev:ByteArray:=⟨#[108,101,118,101,108]⟩
abbrev tCnt:ByteArray:=⟨#[99,111,117,110,116]⟩
abbrev tRou:ByteArray:=⟨#[114,111,117,116,105,110,101]⟩
def words:List ByteArray:=[tVar,tRes,tSto,tBlt,tQue,tStr,tTal,tLev,tCnt,tRou]
def plc:List ByteArray->List (List ByteArray)->ByteArray->ByteArray×Int
 | w::t,l::u,x=>if 0<=fst l x then (w,fst l x) else plc t u x
 | _,_,_=>(nE,-1)
def kindV (s:Ste) (x:ByteArray):ByteArray:=(plc words (names s) x).1
def idxV (s:Ste) (x:ByteArray):Int:=(plc words (names s) x).2
abbrev tCrd:ByteArray:=⟨#[99,114,101,97,116,101,100]⟩
abbrev tEnd:ByteArray:=⟨#[101,110,100,101,100]⟩
abbrev tIns:ByteArray:=⟨#[105,110,115,105,100,101]⟩
abbrev tStd:ByteArray:=⟨#[115,116,111,114,101,100]⟩
abbrev tEnt:ByteArray:=⟨#[101,110,116,101,114,101,100]⟩
abbrev tLft:ByteArray:=⟨#[108,101,102,116]⟩
abbrev tCtd:ByteArray:=⟨#[99,111,117,110,116,101,100]⟩
def cntK (w:ByteArray):ByteArray:=if w=tCrd∨w=tEnd∨w=tIns then tRou else if w=tStd∨w=tEnt∨w=tLft then tSto else if w=tCtd then tCnt else nE
def trmE (s:Ste) (t:Trm):Int:=if cntK t.wh=nE then 1 else if kindV s t.nm=cntK t.wh then (if t.co=0 then 2 else if btw (-1000) t.co 1000 then 0 else 2) else 5
def lawT (s:Ste) (l:Lw):Int:=if l.ts.length=0 then 7 else orE (lstE (trmE s) 8 l.ts) (if btw (-1000000000000) l.tt 1000000000000 then 0 else 2)
def lawP (s:Ste) (l:Lw):ByteArray×Int:=(l.nm,lawT s l)
def lawsE (s:Ste):Int:=(eachE stepN 32 (s.la.map (lawP s)) []).1
def siteT (s:Ste):Int:=orE (frE idE (thr (kinds s) [])) (orE (lstE (staE s.ro) 32 s.ss) (lawsE s))
def siteP (s:Ste):ByteArray×Int:=(s.nm,siteT s)
def siteI (si:List Ste) (x:ByteArray):Int:=fst (si.map (·.nm)) x
def lnkT (si:List Ste) (l:Lnk):Int:=if siteI si l.fr<0∨siteI si l.tt<0 then 5 else if l.fr=l.tt then 1 else if btw 1 l.de 1000000000 then 0 else 2
def lnkK (l:Lnk):List UInt8×List UInt8:=(bs l.fr,bs l.tt)
def stepK (si:List Ste) (acc:List (List UInt8×List UInt8)) (l:Lnk):Int×List (List UInt8×List UInt8):=
 if lnkT si l=0 then (if lnkK l∈acc then (4,acc) else (0,acc++[lnkK l])) else (lnkT si l,acc)
def lnksE (m:Mdl):Int:=(eachE (stepK m.si) 32 m.li []).1
def sitesE (m:Mdl):Int:=if m.si.length=0 then 7 else (eachE stepN 16 (m.si.map siteP) []).1
def parE (m:Mdl):Int:=(eachE stepN 32 (m.pa.map valP) []).1
def mdlE (m:Mdl):Int:=orE (chk (bs m.nm)) (orE (parE m) (orE (sitesE m) (lnksE m)))
def txB (x y:ByteArray):Bool:=decide (bs x=bs y)
def fuB (x y:Res):Bool:=txB x.fs y.fs&&sameDt x.up y.up&&sameDt x.dn y.dn
end Go.Proofs.YtbgodajefaahdaaGreatDoor.Md
namespace Go.Proofs.YtbgodajefaahdaaGreatDoor.Ps
open Go.Proofs.YtbgodajefaahdaaGreatDoor.Lx (Tk bs mt)
open Go.Proofs.YtbgodajefaahdaaGreatDoor.Na (isKw)
open Go.Proofs.YtbgodajefaahdaaGreatDoor.Ex (Ex)
open Go.Proofs.YtbgodajefaahdaaGreatDoor.Sm (St Dt zE zD)
open Go.Proofs.YtbgodajefaahdaaGreatDoor.Md (Val Chg Res Sto Blt Fld Rou Sta Trm Lw Lnk Ste Mdl)
inductive R (α:Type) where
 | ok (x:α) (u:List Tk)
 | no (u:List Tk)
def hd (t:List Tk):Tk:=t.headD ⟨0,mt,0,0⟩
def is (s:ByteArray) (t:List Tk):Bool:=decide (bs (hd t).t=bs s)
inductive P:Type->Type 1 where
 | rt {α:Type} (x:α):P α
 | fl {α:Type}:P α
 | bd {α β:Type} (m:P α) (k:α->P β):P β
 | acc {α:Type} (s:ByteArray) (A B:P α):P α
 | see {α:Type} (s:ByteArray) (A B:P α):P α
 | kd {α:Type} (k:Int) (A B:P α):P α
 | kw {α:Type} (A B:P α):P α
 | tk (k:Int):P (ByteArray×Int)
 | exp (s:ByteArray):P Unit
 | len {α β:Type} (m:P α) (f:Nat->α->β):P β
open Go.Proofs.YtbgodajefaahdaaGreatDoor.Ps.P (rt fl bd acc see kd kw tk exp len)
def run {α:Type}:P α->List Tk->R α
 | .rt x,t=>.ok x t
 | .fl,t=>.no t
 | .bd m k,t=>match run m t with
  | .ok x u=>run (k x) u
  | .no u=>.no u
 | .acc s A B,t=>if is s t=true then run A t.tail else run B t
 | .see s A B,t=>if is s t=true then run A t else run B t
 | .kd k A B,t=>if (hd t).k=k then run A t else run B t
 | .kw A B,t=>if isKw (bs (hd t).t)=true then run A t else run B t
 | .tk k,t=>if (hd t).k=k then .ok ((hd t).t,(hd t).n) t.tail else .no t
 | .exp s,t=>if is s t=true then .ok () t.tail else .no t
 | .len m f,t=>match run m t with
  | .ok x u=>.ok (f (t.length-u.length) x) u
  | .no u=>.no u
section
variable {α β:Type} {m:P α} {k:α->P β} {t u:List Tk} {x:α} {s:ByteArray} {A B:P α} {n:Int} {f:Nat->α->β}
theorem run_rt:run (rt x) t=.ok x t:=rfl
theorem run_fl:run (fl:P α) t=.no t:=rfl
theorem bd_ok (h:run m t=.ok x u):run (bd m k) t=run (k x) u:=by rw[run,h]
theorem bd_no (h:run m t=.no u):run (bd m k) t=.no u:=by rw[run,h]
theorem len_ok (h:run m t=.ok x u):run (len m f) t=.ok (f (t.length-u.length) x) u:=by rw[run,h]
theorem len_no (h:run m t=.no u):run (len m f) t=.no u:=by rw[run,h]
theorem acc_yes (h:is s t=true):run (acc s A B) t=run A t.tail:=by rw[run,if_pos h]
theorem acc_no (h:is s t=false):run (acc s A B) t=run B t:=by rw[run,if_neg (by rw[h];decide)]
theorem see_yes (h:is s t=true):run (see s A B) t=run A t:=by rw[run,if_pos h]
theorem see_no (h:is s t=false):run (see s A B) t=run B t:=by rw[run,if_neg (by rw[h];decide)]
theorem kd_yes (h:(hd t).k=n):run (kd n A B) t=run A t:=by rw[run,if_pos h]
theorem kd_no (h:¬(hd t).k=n):run (kd n A B) t=run B t:=by rw[run,if_neg h]
theorem kw_yes (h:isKw (bs (hd t).t)=true):run (kw A B) t=run A t:=by rw[run,if_pos h]
theorem kw_no (h:isKw (bs (hd t).t)=false):run (kw A B) t=run B t:=by rw[run,if_neg (by rw[h];decide)]
theorem tk_yes (h:(hd t).k=n):run (tk n) t=.ok ((hd t).t,(hd t).n) t.tail:=by rw[run,if_pos h]
theorem tk_no (h:¬(hd t).k=n):run (tk n) t=.no t:=by rw[run,if_neg h]
theorem exp_yes (h:is s t=true):run (exp s) t=.ok () t.tail:=by rw[run,if_pos h]
theorem exp_no (h:is s t=false):run (exp s) t=.no t:=by rw[run,if_neg (by rw[h];decide)]
end
def FU:Nat:=100000
abbrev kModel:ByteArray:=⟨#[109,111,100,101,108]⟩
abbrev kEnd:ByteArray:=⟨#[101,110,100]⟩
abbrev kParam:ByteArray:=⟨#[112,97,114,97,109]⟩
abbrev kLink:ByteArray:=⟨#[108,105,110,107]⟩
abbrev kSite:ByteArray:=⟨#[115,105,116,101]⟩
abbrev kInt:ByteArray:=⟨#[105,110,116]⟩
abbrev kBool:ByteArray:=⟨#[98,111,111,108]⟩
abbrev kTime:ByteArray:=⟨#[116,105,109,101]⟩
abbrev kTrue:ByteArray:=⟨#[116,114,117,101]⟩
abbrev kFalse:ByteArray:=⟨#[102,97,108,115,101]⟩
abbrev kVar:ByteArray:=⟨#[118,97,114]⟩
abbrev kResource:ByteArray:=⟨#[114,101,115,111,117,114,99,101]⟩
abbrev kStore:ByteArray:=⟨#[115,116,111,114,101]⟩
abbrev kBelt:ByteArray:=⟨#[98,101,108,116]⟩
abbrev kQueue:ByteArray:=⟨#[113,117,101,117,101]⟩
abbrev kStream:ByteArray:=⟨#[115,116,114,101,97,109]⟩
abbrev kTally:ByteArray:=⟨#[116,97,108,108,121]⟩
abbrev kLevel:ByteArray:=⟨#[108,101,118,101,108]⟩
abbrev kCount:ByteArray:=⟨#[99,111,117,110,116]⟩
abbrev kRoutine:ByteArray:=⟨#[114,111,117,116,105,110,101]⟩
abbrev kStart:ByteArray:=⟨#[115,116,97,114,116]⟩
abbrev kConserve:ByteArray:=⟨#[99,111,110,115,101,114,118,101]⟩
abbrev kShift:ByteArray:=⟨#[115,104,105,102,116]⟩
abbrev kCycle:ByteArray:=⟨#[99,121,99,108,101]⟩
abbrev kFault:ByteArray:=⟨#[102,97,117,108,116]⟩
abbrev kUp:ByteArray:=⟨#[117,112]⟩
abbrev kDown:ByteArray:=⟨#[100,111,119,110]⟩
abbrev kFifo:ByteArray:=⟨#[102,105,102,111]⟩
abbrev kLifo:ByteArray:=⟨#[108,105,102,111]⟩
abbrev kLeast:ByteArray:=⟨#[108,101,97,115,116]⟩
abbrev kLocal:ByteArray:=⟨#[108,111,99,97,108]⟩
abbrev kAt:ByteArray:=⟨#[97,116]⟩
abbrev kEvery:ByteArray:=⟨#[101,118,101,114,121]⟩
abbrev kUntil:ByteArray:=⟨#[117,110,116,105,108]⟩
abbrev kConst:ByteArray:=⟨#[99,111,110,115,116]⟩
abbrev kUniform:ByteArray:=⟨#[117,110,105,102,111,114,109]⟩
abbrev kTable:ByteArray:=⟨#[116,97,98,108,101]⟩
abbrev kSum:ByteArray:=⟨#[115,117,109]⟩
abbrev kGeom:ByteArray:=⟨#[103,101,111,109]⟩
abbrev kSet:ByteArray:=⟨#[115,101,116]⟩
abbrev kDraw:ByteArray:=⟨#[100,114,97,119]⟩
abbrev kIf:ByteArray:=⟨#[105,102]⟩
abbrev kWhile:ByteArray:=⟨#[119,104,105,108,101]⟩
abbrev kHold:ByteArray:=⟨#[104,111,108,100]⟩
abbrev kSeize:ByteArray:=⟨#[115,101,105,122,101]⟩
abbrev kRelease:ByteArray:=⟨#[114,101,108,101,97,115,101]⟩
abbrev kPut:ByteArray:=⟨#[112,117,116]⟩
abbrev kGet:ByteArray:=⟨#[103,101,116]⟩
abbrev kRide:ByteArray:=⟨#[114,105,100,101]⟩
abbrev kWait:ByteArray:=⟨#[119,97,105,116]⟩
abbrev kSignal:ByteArray:=⟨#[115,105,103,110,97,108]⟩
abbrev kSend:ByteArray:=⟨#[115,101,110,100]⟩
abbrev kSpawn:ByteArray:=⟨#[115,112,97,119,110]⟩
abbrev kObserve:ByteArray:=⟨#[111,98,115,101,114,118,101]⟩
abbrev kAdd:ByteArray:=⟨#[97,100,100]⟩
abbrev kStop:ByteArray:=⟨#[115,116,111,112]⟩
abbrev kFrom:ByteArray:=⟨#[102,114,111,109]⟩
abbrev kElse:ByteArray:=⟨#[101,108,115,101]⟩
abbrev kPrio:ByteArray:=⟨#[112,114,105,111]⟩
abbrev kPreempt:ByteArray:=⟨#[112,114,101,101,109,112,116]⟩
abbrev kInto:ByteArray:=⟨#[105,110,116,111]⟩
abbrev kAfter:ByteArray:=⟨#[97,102,116,101,114]⟩
abbrev kOr:ByteArray:=⟨#[111,114]⟩
abbrev kAnd:ByteArray:=⟨#[97,110,100]⟩
abbrev kNot:ByteArray:=⟨#[110,111,116]⟩
abbrev kNow:ByteArray:=⟨#[110,111,119]⟩
abbrev kDur:ByteArray:=⟨#[100,117,114]⟩
abbrev kTicks:ByteArray:=⟨#[116,105,99,107,115]⟩
abbrev kMin:ByteArray:=⟨#[109,105,110]⟩
abbrev kMax:ByteArray:=⟨#[109,97,120]⟩
abbrev kFree:ByteArray:=⟨#[102,114,101,101]⟩
abbrev kSize:ByteArray:=⟨#[115,105,122,101]⟩
abbrev kWaiting:ByteArray:=⟨#[119,97,105,116,105,110,103]⟩
abbrev zPlus:ByteArray:=⟨#[43]⟩
abbrev zMinus:ByteArray:=⟨#[45]⟩
abbrev zStar:ByteArray:=⟨#[42]⟩
abbrev zSlash:ByteArray:=⟨#[47]⟩
abbrev zPct:ByteArray:=⟨#[37]⟩
abbrev zEq:ByteArray:=⟨#[61]⟩
abbrev zNe:ByteArray:=⟨#[33,61]⟩
abbrev zLt:ByteArray:=⟨#[60]⟩
abbrev zLe:ByteArray:=⟨#[60,61]⟩
abbrev zGt:ByteArray:=⟨#[62]⟩
abbrev zGe:ByteArray:=⟨#[62,61]⟩
abbrev zLpar:ByteArray:=⟨#[40]⟩
abbrev zRpar:ByteArray:=⟨#[41]⟩
abbrev zComma:ByteArray:=⟨#[44]⟩
abbrev zColon:ByteArray:=⟨#[58]⟩
abbrev zDot:ByteArray:=⟨#[46]⟩
def num:P Int:=bd (tk 2) fun x=>rt x.2
def itg:P Int:=acc zMinus (bd num fun n=>rt (-n)) num
def tru:P Int:=acc kTrue (rt 1) (bd (exp kFalse) fun _=>rt 0)
def nam:P ByteArray:=kw fl (bd (tk 1) fun x=>rt x.1)
def nmB (s:ByteArray):P ByteArray:=bd (exp s) fun _=>nam
def eol:P Unit:=bd (tk 4) fun _=>rt ()
def eot:P Unit:=bd (tk 0) fun _=>rt ()
def nmL:P ByteArray:=bd nam fun s=>bd eol fun _=>rt s
def pr:P (Int×Int):=bd num fun a=>bd (exp zColon) fun _=>bd num fun b=>rt (a,b)
def prL:Nat->List (Int×Int)->P (List (Int×Int))
 | 0,_=>fl
 | n+1,l=>kd 2 (bd pr fun x=>prL n (l++[x])) (rt l)
def prs:P (List (Int×Int)):=bd pr fun x=>prL FU [x]
def lsL {α:Type} (e:P α):Nat->List α->P (List α)
 | 0,_=>fl
 | n+1,l=>acc zRpar (rt l) (match l with
  | []=>bd e fun x=>lsL e n [x]
  | y::r=>bd (exp zComma) fun _=>bd e fun x=>lsL e n ((y::r)++[x]))
def lst {α:Type} (e:P α):P (List α):=bd (exp zLpar) fun _=>lsL e FU []
def dst:P Dt:=
 acc kConst (bd num fun a=>rt ⟨1,a,0,0,[],[]⟩) <|
 acc kUniform (bd num fun a=>bd num fun b=>rt ⟨2,a,b,0,[],[]⟩) <|
 acc kTable (bd prs fun l=>rt ⟨3,0,0,0,l.map (·.1),l.map (·.2)⟩) <|
 acc kSum (bd num fun n=>bd num fun a=>bd num fun b=>rt ⟨4,a,b,n,[],[]⟩) <|
 acc kGeom (bd num fun a=>bd num fun b=>rt ⟨5,a,b,0,[],[]⟩) fl
def nd0 (o:Int):Ex:=.mk o mt 0 []
def nd1 (o:Int) (x:Ex):Ex:=.mk o mt 0 [x]
def nd2 (o:Int) (x y:Ex):Ex:=.mk o mt 0 [x,y]
def ndN (o:Int) (s:ByteArray):Ex:=.mk o s 0 []
def ndI (o n:Int):Ex:=.mk o mt n []
def opr {α:Type} (A:Int->P α) (B:P α):List (ByteArray×Int)->P α
 | []=>B
 | o::r=>acc o.1 (A o.2) (opr A B r)
def chL (m:P Ex) (os:List (ByteArray×Int)):Nat->Ex->P Ex
 | 0,_=>fl
 | n+1,e=>opr (fun o=>bd m fun y=>chL m os n (nd2 o e y)) (rt e) os
def chn (m:P Ex) (os:List (ByteArray×Int)):P Ex:=bd m fun e=>chL m os FU e
def one (E:P Ex) (o:Int):P Ex:=bd (exp zLpar) fun _=>bd E fun x=>bd (exp zRpar) fun _=>rt (nd1 o x)
def two (E:P Ex) (o:Int):P Ex:=bd (exp zLpar) fun _=>bd E fun x=>bd (exp zComma) fun _=>bd E fun y=>bd (exp zRpar) fun _=>rt (nd2 o x y)
def onm (o:Int):P Ex:=bd (exp zLpar) fun _=>bd nam fun s=>bd (exp zRpar) fun _=>rt (ndN o s)
def neg (d:Nat) (e:Ex):Ex:=match d,e with
 | 4,.mk 5 s n [.mk 1 s' n' l']=>ndI 1 (-n')
 | _,e=>e
def grp (E:P Ex):P Ex:=len (bd (exp zLpar) fun _=>bd E fun e=>bd (exp zRpar) fun _=>rt e) neg
def prm (E:P Ex):P Ex:=
 kd 2 (bd num fun n=>rt (ndI 1 n)) <|
 see kTrue (bd tru fun n=>rt (ndI 2 n)) <|
 see kFalse (bd tru fun n=>rt (ndI 2 n)) <|
 acc kNow (rt (nd0 4)) <|
 acc kDur (one E 7) <|
 acc kTicks (one E 8) <|
 acc kMin (two E 20) <|
 acc kMax (two E 21) <|
 acc kFree (onm 22) <|
 acc kSize (onm 23) <|
 acc kWaiting (onm 24) <|
 see zLpar (grp E) <|
 bd nam fun s=>rt (ndN 3 s)
def fac (E F:P Ex):P Ex:=acc zMinus (bd F fun x=>rt (nd1 5 x)) (prm E)
def prd (f:P Ex):P Ex:=chn f [(zStar,11),(zSlash,12),(zPct,13)]
def sum (f:P Ex):P Ex:=chn (prd f) [(zPlus,9),(zMinus,10)]
def cmp (f:P Ex):P Ex:=bd (sum f) fun x=>
 acc zEq (bd (sum f) fun y=>rt (nd2 14 x y)) <|
 acc zNe (bd (sum f) fun y=>rt (nd2 15 x y)) <|
 acc zLt (bd (sum f) fun y=>rt (nd2 16 x y)) <|
 acc zLe (bd (sum f) fun y=>rt (nd2 17 x y)) <|
 acc zGt (bd (sum f) fun y=>rt (nd2 16 y x)) <|
 acc zGe (bd (sum f) fun y=>rt (nd2 17 y x)) <|
 rt x
def ngt (f N:P Ex):P Ex:=acc kNot (bd N fun x=>rt (nd1 6 x)) (cmp f)
def cnj (g:P Ex):P Ex:=chn g [(kAnd,18)]
def dsj (g:P Ex):P Ex:=chn (cnj g) [(kOr,19)]
mutual
def fF:Nat->P Ex
 | 0=>fl
 | n+1=>fac (fE n) (fF n)
def fN:Nat->P Ex
 | 0=>fl
 | n+1=>ngt (fac (fE n) (fF n)) (fN n)
def fE:Nat->P Ex
 | 0=>fl
 | n+1=>dsj (ngt (fac (fE n) (fF n)) (fN n))
end
theorem fF_succ (n:Nat):fF (n+1)=fac (fE n) (fF n):=by rw[fF]
theorem fN_succ (n:Nat):fN (n+1)=ngt (fF (n+1)) (fN n):=by rw[fN,fF]
theorem fE_succ (n:Nat):fE (n+1)=dsj (fN (n+1)):=by rw[fE,fN]
def xpr:P Ex:=fE FU
def stm (o:Int) (nm f:ByteArray) (e:Ex):St:=.mk o nm f e zE [] zD false [] []
def chg (o:Int):P St:=bd nam fun s=>bd xpr fun e=>rt (stm o s mt e)
def bgn (o:Int) (f:ByteArray):P St:=bd nam fun s=>bd (lst xpr) fun l=>bd (exp kAfter) fun _=>bd xpr fun e=>rt (.mk o s f e zE l zD false [] [])
def cnd:P Ex:=bd xpr fun e=>bd eol fun _=>rt e
def stt (B:P (List St)):P St:=
 acc kSet (bd nam fun s=>bd (exp zEq) fun _=>bd xpr fun e=>rt (stm 1 s mt e)) <|
 acc kDraw (bd nam fun s=>bd (nmB kFrom) fun f=>bd dst fun d=>rt (.mk 2 s f zE zE [] d false [] [])) <|
 acc kIf (bd cnd fun e=>bd B fun b=>bd (acc kElse (bd eol fun _=>B) (rt [])) fun l=>bd (exp kEnd) fun _=>rt (.mk 3 mt mt e zE [] zD false b l)) <|
 acc kWhile (bd cnd fun e=>bd B fun b=>bd (exp kEnd) fun _=>rt (.mk 4 mt mt e zE [] zD false b [])) <|
 acc kHold (bd xpr fun e=>rt (stm 5 mt mt e)) <|
 acc kSeize (bd nam fun s=>bd xpr fun e=>bd (exp kPrio) fun _=>bd xpr fun g=>bd (acc kPreempt (rt true) (rt false)) fun b=>rt (.mk 6 s mt e g [] zD b [] [])) <|
 acc kRelease (chg 7) <|
 acc kPut (bd xpr fun e=>bd (nmB kInto) fun s=>rt (stm 8 s mt e)) <|
 acc kGet (bd nam fun f=>bd (nmB kFrom) fun s=>rt (stm 9 s f zE)) <|
 acc kRide (bd nam fun s=>rt (stm 10 s mt zE)) <|
 acc kWait (bd nam fun s=>rt (stm 11 s mt zE)) <|
 acc kSignal (chg 12) <|
 acc kSend (bd nam fun f=>bd (exp zDot) fun _=>bgn 13 f) <|
 acc kSpawn (bgn 14 mt) <|
 acc kObserve (chg 15) <|
 acc kLevel (chg 16) <|
 acc kAdd (chg 17) <|
 acc kStop (rt (stm 18 mt mt zE)) <|
 fl
def stL (S:P St):Nat->List St->P (List St)
 | 0,_=>fl
 | n+1,l=>see kEnd (rt l) <| see kElse (rt l) <| kd 0 (rt l) <| bd S fun x=>bd eol fun _=>stL S n (l++[x])
def fS:Nat->P (List St)
 | 0=>fl
 | n+1=>stL (stt (fS n)) FU []
def sts:P (List St):=fS FU
def typ:P Int:=acc kInt (rt 1) <| acc kBool (rt 2) <| acc kTime (rt 3) fl
def val:P Val:=bd nam fun s=>bd typ fun y=>bd (exp zEq) fun _=>bd (if y=2 then tru else itg) fun n=>bd eol fun _=>rt ⟨s,y,n⟩
def fld:P Fld:=bd nam fun s=>bd typ fun y=>rt ⟨s,y⟩
def shf:P (List Chg×Int):=acc kShift (bd prs fun l=>bd (exp kCycle) fun _=>bd num fun n=>rt (l.map (fun q=>⟨q.1,q.2⟩),n)) (rt ([],0))
def flt:P (ByteArray×Dt×Dt):=acc kFault (bd nam fun s=>bd (exp kUp) fun _=>bd dst fun a=>bd (exp kDown) fun _=>bd dst fun b=>rt (s,a,b)) (rt (mt,zD,zD))
def rsc:P Res:=bd nam fun s=>bd num fun n=>bd shf fun h=>bd flt fun f=>bd eol fun _=>rt ⟨s,n,h.1,h.2,f.1,f.2.1,f.2.2⟩
def pol:P Int:=acc kFifo (rt 1) <| acc kLifo (rt 2) <| acc kLeast (rt 3) fl
def sto:P Sto:=bd nam fun s=>bd num fun n=>bd pol fun p=>bd eol fun _=>rt ⟨s,n,p⟩
def blt:P Blt:=bd nam fun s=>bd num fun n=>bd num fun p=>bd eol fun _=>rt ⟨s,n,p⟩
def lcL:Nat->List Fld->P (List Fld)
 | 0,_=>fl
 | n+1,l=>acc kLocal (bd fld fun x=>bd eol fun _=>lcL n (l++[x])) (rt l)
def rou:P Rou:=bd nam fun s=>bd (lst fld) fun ps=>bd eol fun _=>bd (lcL FU []) fun ls=>bd sts fun b=>bd (exp kEnd) fun _=>bd eol fun _=>rt ⟨s,ps,ls,b⟩
def arg:P Int:=see kTrue tru <| see kFalse tru itg
def evy:P (Int×Int):=acc kEvery (bd num fun a=>bd (exp kUntil) fun _=>bd num fun b=>rt (a,b)) (rt (0,0))
def sta:P Sta:=bd nam fun s=>bd (lst arg) fun l=>bd (exp kAt) fun _=>bd num fun a=>bd evy fun v=>bd eol fun _=>rt ⟨s,l,a,v.1,v.2⟩
def trm:P Trm:=bd (kd 2 (bd num fun n=>bd (exp zStar) fun _=>rt n) (rt 1)) fun c=>bd nam fun w=>bd nam fun s=>rt ⟨c,w,s⟩
def sgt:P Trm:=acc zPlus trm (bd (exp zMinus) fun _=>bd trm fun x=>rt ⟨-x.co,x.wh,x.nm⟩)
def lwL:Nat->List Trm->P (List Trm)
 | 0,_=>fl
 | n+1,l=>acc zEq (rt l) (bd sgt fun x=>lwL n (l++[x]))
def law:P Lw:=bd nam fun s=>bd (exp zColon) fun _=>bd (see zMinus (rt []) (bd trm fun x=>rt [x])) fun l=>bd (lwL FU l) fun ts=>bd itg fun n=>bd eol fun _=>rt ⟨s,ts,n⟩
def dcl (x:Ste):P Ste:=
 acc kVar (bd val fun y=>rt { x with va:=x.va++[y] }) <|
 acc kResource (bd rsc fun y=>rt { x with rs:=x.rs++[y] }) <|
 acc kStore (bd sto fun y=>rt { x with st:=x.st++[y] }) <|
 acc kBelt (bd blt fun y=>rt { x with be:=x.be++[y] }) <|
 acc kQueue (bd nmL fun y=>rt { x with qu:=x.qu++[y] }) <|
 acc kStream (bd nmL fun y=>rt { x with sm:=x.sm++[y] }) <|
 acc kTally (bd nmL fun y=>rt { x with ta:=x.ta++[y] }) <|
 acc kLevel (bd nmL fun y=>rt { x with le:=x.le++[y] }) <|
 acc kCount (bd nmL fun y=>rt { x with co:=x.co++[y] }) <|
 acc kRoutine (bd rou fun y=>rt { x with ro:=x.ro++[y] }) <|
 acc kStart (bd sta fun y=>rt { x with ss:=x.ss++[y] }) <|
 acc kConserve (bd law fun y=>rt { x with la:=x.la++[y] }) <|
 fl
def sit0 (s:ByteArray):Ste:=⟨s,[],[],[],[],[],[],[],[],[],[],[],[]⟩
def siL:Nat->Ste->P Ste
 | 0,_=>fl
 | n+1,x=>acc kEnd (rt x) (bd (dcl x) fun y=>siL n y)
def sit:P Ste:=bd nmL fun s=>bd (siL FU (sit0 s)) fun x=>bd eol fun _=>rt x
def lnk:P Lnk:=bd nam fun a=>bd nam fun b=>bd num fun n=>bd eol fun _=>rt ⟨a,b,n⟩
def prt (m:Mdl):P Mdl:=
 acc kParam (bd val fun y=>rt { m with pa:=m.pa++[y] }) <|
 acc kLink (bd lnk fun y=>rt { m with li:=m.li++[y] }) <|
 acc kSite (bd sit fun y=>rt { m with si:=m.si++[y] }) <|
 fl
def mdL:Nat->Mdl->P Mdl
 | 0,_=>fl
 | n+1,m=>acc kEnd (rt m) (bd (prt m) fun y=>mdL n y)
def mdl:P Mdl:=bd (nmB kModel) fun s=>bd eol fun _=>bd (mdL FU ⟨s,[],[],[]⟩) fun m=>bd eol fun _=>bd eot fun _=>rt m
def oSt:P (List St):=bd sts fun l=>bd eot fun _=>rt l
def oEx:P Ex:=bd xpr fun e=>bd eol fun _=>bd eot fun _=>rt e
end Go.Proofs.YtbgodajefaahdaaGreatDoor.Ps
namespace Go.Proofs.YtbgodajefaahdaaGreatDoor.Md
open Go.RowKit
set_option maxHeartbeats 4000000
def Bf (B u:Nat) (b:Nat):Prop:=b<u/\b≠B
end Go.Proofs.YtbgodajefaahdaaGreatDoor.Md
