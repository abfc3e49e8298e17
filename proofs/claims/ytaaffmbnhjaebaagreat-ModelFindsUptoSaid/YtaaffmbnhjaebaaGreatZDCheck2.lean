/-
  Parts of this proof: The contract of package dist's Check, at every distribution. Mathematics of statements. Words for worlds and statements in memory. Mathematics of models.
-/
import Derived.Test.YtaaffmbnhjaebaaGreatZDSame
import Derived.Test.YtaaffmbnhjaebaaGreatZDCheck
import Derived.RangeFuncRecord
import Derived.Deep.MidRow
import Derived.Deep.WholeRow
namespace Go.Proofs.YtaaffmbnhjaebaaGreat.Di
open Go.RowKit
set_option maxHeartbeats 2000000
def errW (op : Int) (u : Bool) (E : Int) (r : Bool) : Int := if u = true then (if op = 3 then (if E = 0 then (if r = true then 0 else 2) else E) else (if r = true then 0 else 2)) else 1
theorem zDCheck2_0 {p : Prop} (h : p := by
 go_enter Tryz.func149, Tryz.ntmps149
 go_wp2_with fail
 go_region_held3 (fun w' => w'.cell? ⟨w.heap.size, 0, none⟩ = some (.int .i64 3) ∧ w'.cell? ⟨w.heap.size, 1, none⟩ = some (.int .i64 a) ∧ w'.cell? ⟨w.heap.size, 2, none⟩ = some (.int .i64 b) ∧ w'.cell? ⟨w.heap.size, 3, none⟩ = some (.int .i64 n) ∧ w'.cell? ⟨w.heap.size, 4, none⟩ = some (.slice p lv c) ∧ w'.cell? ⟨w.heap.size, 5, none⟩ = some (.slice q lw f)) (first | (with_reducible exact six.keep D2) | (with_reducible exact six.keep D1) | (with_reducible exact six.keep six.new.drew) | (with_reducible exact six.keep six.new) | (go_keep; done)) (first | (go_at_call 166; refine (U.out _).mono ?_; rintro e w1 ⟨rfl, hb1⟩; have D1 := six.on hb1 six.new.drew) | (go_at_call 144; refine (S.out _ bd).mono ?_; rintro e w2 ⟨rfl, hb2⟩; have D2 := six.on hb2 D1))
 all_goals
  obtain ⟨d0, d1, d2, d3, d4, d5, d6⟩ := D2
  have D2 : six _ _ _ _ _ _ _ _ := ⟨d0, d1, d2, d3, d4, d5, d6⟩
  go_wp2_with fail
  refine (L.out _).mono ?_
  rintro e w3 ⟨rfl, rfl⟩
  go_wp2_with fail
  refine (I.out _ bd).mono ?_
  rintro e w4 ⟨rfl, hb4⟩
  go_wp2_with fail
  go_ret
  exact ⟨rfl, bd⟩
 ) : p := h
theorem zDCheck2_1 {p : Prop} (h : p := by
 go_enter Tryz.func149, Tryz.ntmps149
 go_wp2_with fail
 go_region_held3 (fun w' => w'.cell? ⟨w.heap.size, 0, none⟩ = some (.int .i64 op) ∧ w'.cell? ⟨w.heap.size, 1, none⟩ = some (.int .i64 a) ∧ w'.cell? ⟨w.heap.size, 2, none⟩ = some (.int .i64 b) ∧ w'.cell? ⟨w.heap.size, 3, none⟩ = some (.int .i64 n) ∧ w'.cell? ⟨w.heap.size, 4, none⟩ = some (.slice p lv c) ∧ w'.cell? ⟨w.heap.size, 5, none⟩ = some (.slice q lw f)) (first | (with_reducible exact six.keep D2) | (with_reducible exact six.keep D1) | (with_reducible exact six.keep six.new.drew) | (with_reducible exact six.keep six.new) | (go_keep; done)) (first | (go_at_call 166; refine (U.out _).mono ?_; rintro e w1 ⟨rfl, hb1⟩; have D1 := six.on hb1 six.new.drew) | (go_at_call 144; refine (S.out _ bd).mono ?_; rintro e w2 ⟨rfl, hb2⟩; have D2 := six.on hb2 D1))
 all_goals
  obtain ⟨d0, d1, d2, d3, d4, d5, d6⟩ := D2
  have D2 : six _ _ _ _ _ _ _ _ := ⟨d0, d1, d2, d3, d4, d5, d6⟩
  go_wp2_with fail
  refine (I.out _ bd).mono ?_
  rintro e w4 ⟨rfl, hb4⟩
  go_wp2_with fail
  go_ret
  exact ⟨rfl, bd⟩
 ) : p := h
theorem check_in (op a b n : Int) (p : Option Addr) (lv c : Nat) (q : Option Addr) (lw f : Nat) (k1 : decide (op < 1) = false) (k5 : decide (5 < op) = false) (x : Value) (u r : Bool) (E : Int) (w : World)
 (U : Hid (∀ w2, Calls Tryz.prog 166 #[.agg #[.int .i64 op, .int .i64 a, .int .i64 b, .int .i64 n, .slice p lv c, .slice q lw f]] w2 (Gives x w2)))
 (S : Hid (∀ w2, Below w.heap.size w w2 → Calls Tryz.prog 144 #[x, .agg #[.int .i64 op, .int .i64 0, .int .i64 0, .int .i64 0, .slice none 0 0, .slice none 0 0]] w2 (Gives (.bool u) w2)))
 (I : Hid (∀ w2, Below w.heap.size w w2 → Calls Tryz.prog 168 #[.agg #[.int .i64 op, .int .i64 a, .int .i64 b, .int .i64 n, .slice p lv c, .slice q lw f]] w2 (Gives (.bool r) w2)))
 (L : Hid (∀ w2, Calls Tryz.prog 167 #[.int .i64 lv, .int .i64 lw] w2 fun e w' => e = .returned (.int .i64 E) ∧ w2 = w')) :
 Calls Tryz.prog 149 #[.agg #[.int .i64 op, .int .i64 a, .int .i64 b, .int .i64 n, .slice p lv c, .slice q lw f]] w (Gives (.int .i64 (errW op u E r)) w) := by
 unfold errW
 cases u
 · rw [if_neg (by decide)]
   go_enter Tryz.func149, Tryz.ntmps149
   go_wp2_with fail
   go_region_held3 (fun w' => w'.cell? ⟨w.heap.size, 0, none⟩ = some (.int .i64 op) ∧ w'.cell? ⟨w.heap.size, 1, none⟩ = some (.int .i64 a) ∧ w'.cell? ⟨w.heap.size, 2, none⟩ = some (.int .i64 b) ∧ w'.cell? ⟨w.heap.size, 3, none⟩ = some (.int .i64 n) ∧ w'.cell? ⟨w.heap.size, 4, none⟩ = some (.slice p lv c) ∧ w'.cell? ⟨w.heap.size, 5, none⟩ = some (.slice q lw f)) (first | (with_reducible exact six.keep D2) | (with_reducible exact six.keep D1) | (with_reducible exact six.keep six.new.drew) | (with_reducible exact six.keep six.new) | (go_keep; done)) (first | (go_at_call 166; refine (U.out _).mono ?_; rintro e w1 ⟨rfl, hb1⟩; have D1 := six.on hb1 six.new.drew) | (go_at_call 144; refine (S.out _ bd).mono ?_; rintro e w2 ⟨rfl, hb2⟩; have D2 := six.on hb2 D1))
   all_goals
    go_wp2_with fail
    go_ret
    exact ⟨rfl, bd⟩
 · rw [if_pos rfl]
   by_cases h3 : op = 3
   · subst h3
     rw [if_pos rfl]
     by_cases hE : E = 0
     · subst hE
       rw [if_pos rfl]
       cases r
       · rw [if_neg (by decide)]
         exact zDCheck2_0
       · rw [if_pos rfl]
         exact zDCheck2_0
     · rw [if_neg hE]
       have hE2 : (E != 0) = true := by rw [bne_iff_ne]; exact hE
       clear hE
       go_enter Tryz.func149, Tryz.ntmps149
       go_wp2_with fail
       go_region_held3 (fun w' => w'.cell? ⟨w.heap.size, 0, none⟩ = some (.int .i64 3) ∧ w'.cell? ⟨w.heap.size, 1, none⟩ = some (.int .i64 a) ∧ w'.cell? ⟨w.heap.size, 2, none⟩ = some (.int .i64 b) ∧ w'.cell? ⟨w.heap.size, 3, none⟩ = some (.int .i64 n) ∧ w'.cell? ⟨w.heap.size, 4, none⟩ = some (.slice p lv c) ∧ w'.cell? ⟨w.heap.size, 5, none⟩ = some (.slice q lw f)) (first | (with_reducible exact six.keep D2) | (with_reducible exact six.keep D1) | (with_reducible exact six.keep six.new.drew) | (with_reducible exact six.keep six.new) | (go_keep; done)) (first | (go_at_call 166; refine (U.out _).mono ?_; rintro e w1 ⟨rfl, hb1⟩; have D1 := six.on hb1 six.new.drew) | (go_at_call 144; refine (S.out _ bd).mono ?_; rintro e w2 ⟨rfl, hb2⟩; have D2 := six.on hb2 D1))
       all_goals
        obtain ⟨d0, d1, d2, d3, d4, d5, d6⟩ := D2
        have D2 : six _ _ _ _ _ _ _ _ := ⟨d0, d1, d2, d3, d4, d5, d6⟩
        go_wp2_with fail
        refine (L.out _).mono ?_
        rintro e w3 ⟨rfl, rfl⟩
        go_wp2_with fail
        go_ret
        exact ⟨rfl, bd⟩
   · rw [if_neg h3]
     have h4 : (op == 3) = false := by rw [beq_eq_false_iff_ne]; exact h3
     clear h3
     cases r
     · rw [if_neg (by decide)]
       exact zDCheck2_1
     · rw [if_pos rfl]
       exact zDCheck2_1
def unB (op a b n : Int) (lv lw : Nat) : Bool :=
 if op = 1 then b == 0 && (n == 0 && (lv == 0 && lw == 0))
 else if op = 2 then n == 0 && (lv == 0 && lw == 0)
 else if op = 3 then a == 0 && (b == 0 && n == 0)
 else if op = 4 then lv == 0 && lw == 0
 else if op = 5 then n == 0 && (lv == 0 && lw == 0)
 else false
def rngB (op a b n : Int) (lv lw : Nat) (V W : Nat → Int) : Bool :=
 if op = 1 then inB 0 a 1000000000
 else if op = 2 then inB 0 a b && decide (b ≤ 1000000000)
 else if op = 3 then allB 0 1000000000 V lv && allB 1 1000 W lw
 else if op = 4 then inB 1 n 20 && inB 0 a b && decide (b ≤ 1000000)
 else inB 1 a 1000 && inB 1 b 1000
def errD (op a b n : Int) (lv lw : Nat) (V W : Nat → Int) : Int := errW op (unB op a b n lv lw) (lenE lv lw) (rngB op a b n lv lw V W)
theorem eqL_zero (m : Nat) (V Z : Nat → Int) : eqL m 0 V Z = (m == 0) := by
 unfold eqL
 cases h : (m == 0)
 · rfl
 · rw [beq_iff_eq.1 h]; rfl
theorem row_nil (w : World) (V : Nat → Int) : Row w none 0 V := ⟨Nat.zero_le _, .inl rfl⟩
theorem same_nil (op a b n op2 a2 b2 n2 : Int) (lv lw : Nat) (V W Z : Nat → Int) : sameD op a b n lv lw V W op2 a2 b2 n2 0 0 Z Z = (op == op2 && (a == a2 && (b == b2 && (n == n2 && (lv == 0 && lw == 0))))) := by
 unfold sameD; rw [eqL_zero, eqL_zero]
def Z0 (_ : Nat) : Int := 0
theorem check_any (op a b n : Int) (p : Option Addr) (lv c : Nat) (q : Option Addr) (lw f : Nat) (V W : Nat → Int) (w : World) (hV : Row w p lv V) (hW : Row w q lw W) : Calls Tryz.prog 149 #[.agg #[.int .i64 op, .int .i64 a, .int .i64 b, .int .i64 n, .slice p lv c, .slice q lw f]] w (Gives (.int .i64 (errD op a b n lv lw V W)) w) := by
 by_cases ho : op < 1 ∨ 5 < op
 · have e : errD op a b n lv lw V W = 1 := by
    have : unB op a b n lv lw = false := by unfold unB; rw [if_neg (by omega), if_neg (by omega), if_neg (by omega), if_neg (by omega), if_neg (by omega)]
    unfold errD errW; rw [this]; rfl
   rw [e]
   exact check_out op _ _ _ _ _ ho w
 · have h : op = 1 ∨ op = 2 ∨ op = 3 ∨ op = 4 ∨ op = 5 := by omega
   clear ho
   rcases h with rfl | rfl | rfl | rfl | rfl
   · have S1 := fun (w2 : World) (hb : Below w.heap.size w w2) => same_any 1 0 b n p lv c q lw f V W 1 0 0 0 none 0 0 none 0 0 Z0 Z0 w2 (hV.on hb) (hW.on hb) (row_nil _ _) (row_nil _ _)
     simp only [same_nil] at S1
     exact check_in 1 a b n p lv c q lw f (by decide) (by decide) _ _ _ _ w (Lib.hid (unused1 a b n p lv c q lw f)) (Lib.hid S1) (Lib.hid fun w2 _ => rng1 a _ _ _ _ w2) (Lib.hid (lens_any lv lw))
   · have S1 := fun (w2 : World) (hb : Below w.heap.size w w2) => same_any 2 0 0 n p lv c q lw f V W 2 0 0 0 none 0 0 none 0 0 Z0 Z0 w2 (hV.on hb) (hW.on hb) (row_nil _ _) (row_nil _ _)
     simp only [same_nil] at S1
     exact check_in 2 a b n p lv c q lw f (by decide) (by decide) _ _ _ _ w (Lib.hid (unused2 a b n p lv c q lw f)) (Lib.hid S1) (Lib.hid fun w2 _ => rng2 a b _ _ _ w2) (Lib.hid (lens_any lv lw))
   · have S1 := fun (w2 : World) (_ : Below w.heap.size w w2) => same_any 3 a b n none 0 0 none 0 0 Z0 Z0 3 0 0 0 none 0 0 none 0 0 Z0 Z0 w2 (row_nil _ _) (row_nil _ _) (row_nil _ _) (row_nil _ _)
     have e : unB 3 a b n lv lw = sameD 3 a b n 0 0 Z0 Z0 3 0 0 0 0 0 Z0 Z0 := by
      rw [same_nil]; show (a == 0 && (b == 0 && n == 0)) = _
      simp
     unfold errD
     rw [e]
     exact check_in 3 a b n p lv c q lw f (by decide) (by decide) _ _ _ _ w (Lib.hid (unused3 a b n p lv c q lw f)) (Lib.hid S1) (Lib.hid fun w2 hb => rng3 _ _ _ p lv c q lw f V W w2 (hV.on hb) (hW.on hb)) (Lib.hid (lens_any lv lw))
   · have S1 := fun (w2 : World) (hb : Below w.heap.size w w2) => same_any 4 0 0 0 p lv c q lw f V W 4 0 0 0 none 0 0 none 0 0 Z0 Z0 w2 (hV.on hb) (hW.on hb) (row_nil _ _) (row_nil _ _)
     simp only [same_nil] at S1
     exact check_in 4 a b n p lv c q lw f (by decide) (by decide) _ _ _ _ w (Lib.hid (unused4 a b n p lv c q lw f)) (Lib.hid S1) (Lib.hid fun w2 _ => rng4 a b n _ _ w2) (Lib.hid (lens_any lv lw))
   · have S1 := fun (w2 : World) (hb : Below w.heap.size w w2) => same_any 5 0 0 n p lv c q lw f V W 5 0 0 0 none 0 0 none 0 0 Z0 Z0 w2 (hV.on hb) (hW.on hb) (row_nil _ _) (row_nil _ _)
     simp only [same_nil] at S1
     exact check_in 5 a b n p lv c q lw f (by decide) (by decide) _ _ _ _ w (Lib.hid (unused5 a b n p lv c q lw f)) (Lib.hid S1) (Lib.hid fun w2 _ => rng5 a b _ _ _ w2) (Lib.hid (lens_any lv lw))
end Go.Proofs.YtaaffmbnhjaebaaGreat.Di
namespace Go.Proofs.YtaaffmbnhjaebaaGreat.Sm
open Go.Proofs.YtaaffmbnhjaebaaGreat.Na (bs bs_inj chk)
open Go.Proofs.YtaaffmbnhjaebaaGreat.Ex (Ex chkE take_one)
set_option linter.unusedVariables false
structure Dt where
 op : Int
 a : Int
 b : Int
 n : Int
 vs : List Int
 ws : List Int
inductive St where
 | mk (o : Int) (nm f : ByteArray) (e g : Ex) (ar : List Ex) (di : Dt) (fl : Bool) (bo el : List St)
def St.o : St → Int
 | .mk o _ _ _ _ _ _ _ _ _ => o
def St.nm : St → ByteArray
 | .mk _ nm _ _ _ _ _ _ _ _ => nm
def St.f : St → ByteArray
 | .mk _ _ f _ _ _ _ _ _ _ => f
def St.e : St → Ex
 | .mk _ _ _ e _ _ _ _ _ _ => e
def St.g : St → Ex
 | .mk _ _ _ _ g _ _ _ _ _ => g
def St.ar : St → List Ex
 | .mk _ _ _ _ _ ar _ _ _ _ => ar
def St.di : St → Dt
 | .mk _ _ _ _ _ _ di _ _ _ => di
def St.fl : St → Bool
 | .mk _ _ _ _ _ _ _ fl _ _ => fl
def St.bo : St → List St
 | .mk _ _ _ _ _ _ _ _ bo _ => bo
def St.el : St → List St
 | .mk _ _ _ _ _ _ _ _ _ el => el
mutual
def cn : St → Nat
 | .mk _ _ _ _ _ _ _ _ bo el => cnL bo + cnL el + 1
def cnL : List St → Nat
 | [] => 0
 | x :: t => cn x + cnL t
end
mutual
def dp : St → Nat
 | .mk _ _ _ _ _ _ _ _ bo el => max (dpL bo) (dpL el) + 1
def dpL : List St → Nat
 | [] => 0
 | x :: t => max (dp x) (dpL t)
end
mutual
def ord : St → List St
 | .mk o nm f e g ar di fl bo el => .mk o nm f e g ar di fl bo el :: (ordL bo ++ ordL el)
def ordL : List St → List St
 | [] => []
 | x :: t => ord x ++ ordL t
end
def sz0 (e g : Ex) (ar : List Ex) (di : Dt) : Nat := 1 + Ex.cnt e + Ex.cnt g + di.vs.length + di.ws.length + Ex.cntL ar
mutual
def sz : St → Nat
 | .mk _ _ _ e g ar di _ bo el => sz0 e g ar di + szL bo + szL el
def szL : List St → Nat
 | [] => 0
 | x :: t => sz x + szL t
end
theorem cn_one (x : St) : cn x = cnL x.bo + cnL x.el + 1 := by obtain ⟨o, nm, f, e, g, ar, di, fl, bo, el⟩ := x; rw [cn]; rfl
theorem dp_one (x : St) : dp x = max (dpL x.bo) (dpL x.el) + 1 := by obtain ⟨o, nm, f, e, g, ar, di, fl, bo, el⟩ := x; rw [dp]; rfl
theorem ord_one (x : St) : ord x = x :: (ordL x.bo ++ ordL x.el) := by obtain ⟨o, nm, f, e, g, ar, di, fl, bo, el⟩ := x; rw [ord]; rfl
theorem sz_one (x : St) : sz x = sz0 x.e x.g x.ar x.di + szL x.bo + szL x.el := by obtain ⟨o, nm, f, e, g, ar, di, fl, bo, el⟩ := x; rw [sz]; rfl
theorem cn_pos (x : St) : 1 ≤ cn x := by rw [cn_one]; omega
theorem dpL_cons (x : St) (t : List St) : dpL (x :: t) = max (dp x) (dpL t) := by rw [dpL]
theorem cnL_app : ∀ a b : List St, cnL (a ++ b) = cnL a + cnL b
 | [], b => by simp [cnL]
 | x :: t, b => by simp only [List.cons_append, cnL, cnL_app t b]; omega
theorem dpL_app : ∀ a b : List St, dpL (a ++ b) = max (dpL a) (dpL b)
 | [], b => by simp [dpL]
 | x :: t, b => by simp only [List.cons_append, dpL, dpL_app t b]; omega
theorem ordL_app : ∀ a b : List St, ordL (a ++ b) = ordL a ++ ordL b
 | [], b => rfl
 | x :: t, b => by simp only [List.cons_append, ordL, ordL_app t b, List.append_assoc]
theorem cnL_take {l : List St} {k : Nat} {x : St} (h : l[k]? = some x) : cnL (l.take (k + 1)) = cnL (l.take k) + cn x := by rw [take_one h, cnL_app]; simp [cnL]
theorem ordL_take {l : List St} {k : Nat} {x : St} (h : l[k]? = some x) : ordL (l.take (k + 1)) = ordL (l.take k) ++ ord x := by rw [take_one h, ordL_app]; simp [ordL]
theorem cnL_le (l : List St) (k : Nat) : cnL (l.take k) ≤ cnL l := by
 have := cnL_app (l.take k) (l.drop k)
 rw [List.take_append_drop] at this
 omega
theorem dpL_le (l : List St) (k : Nat) : dpL (l.take k) ≤ dpL l := by
 have := dpL_app (l.take k) (l.drop k)
 rw [List.take_append_drop] at this
 omega
theorem cn_mem : ∀ {l : List St} {x : St}, x ∈ l → cn x ≤ cnL l
 | [], x, h => by cases h
 | y :: t, x, h => by
  unfold cnL
  rcases List.mem_cons.1 h with rfl | h
  · omega
  · have := cn_mem h; omega
theorem ordL_mem : ∀ {l : List St} {x y : St}, x ∈ l → y ∈ ord x → y ∈ ordL l
 | [], x, y, h, _ => by cases h
 | z :: t, x, y, h, g => by
  unfold ordL
  rcases List.mem_cons.1 h with rfl | h
  · exact List.mem_append_left _ g
  · exact List.mem_append_right _ (ordL_mem h g)
theorem ordL_mem' : ∀ {l : List St} {y : St}, y ∈ ordL l → ∃ x ∈ l, y ∈ ord x
 | [], y, h => by cases h
 | z :: t, y, h => by
  unfold ordL at h
  rcases List.mem_append.1 h with h | h
  · exact ⟨z, List.mem_cons_self, h⟩
  · obtain ⟨x, hx, hy⟩ := ordL_mem' h
    exact ⟨x, List.mem_cons_of_mem _ hx, hy⟩
theorem ord_self (x : St) : x ∈ ord x := by rw [ord_one]; exact List.mem_cons_self
theorem ordL_self {l : List St} {x : St} (h : x ∈ l) : x ∈ ordL l := ordL_mem h (ord_self x)
theorem ord_bo {x y : St} (h : y ∈ ordL x.bo) : y ∈ ord x := by rw [ord_one]; exact List.mem_cons_of_mem _ (List.mem_append_left _ h)
theorem ord_el {x y : St} (h : y ∈ ordL x.el) : y ∈ ord x := by rw [ord_one]; exact List.mem_cons_of_mem _ (List.mem_append_right _ h)
theorem St.ind {P : St → Prop} (h : ∀ x : St, (∀ y ∈ x.bo, P y) → (∀ y ∈ x.el, P y) → P x) (x : St) : P x := by
 have : ∀ k x, cn x ≤ k → P x := by
  intro k
  induction k with
  | zero => intro x hx; have := cn_pos x; omega
  | succ k ih =>
   intro x hx
   rw [cn_one] at hx
   exact h x (fun y hy => ih y (by have := cn_mem hy; omega)) (fun y hy => ih y (by have := cn_mem hy; omega))
 exact this _ x (Nat.le_refl _)
theorem lst_ind {Q : List St → Prop} (h : ∀ sl : List St, (∀ x ∈ sl, Q x.bo ∧ Q x.el) → Q sl) (sl : List St) : Q sl := by
 have : ∀ k sl, cnL sl ≤ k → Q sl := by
  intro k
  induction k with
  | zero =>
   intro sl hs
   refine h sl fun x hx => ?_
   have := cn_mem hx
   have := cn_pos x
   omega
  | succ k ih =>
   intro sl hs
   refine h sl fun x hx => ?_
   have h1 := cn_mem hx
   rw [cn_one] at h1
   exact ⟨ih _ (by omega), ih _ (by omega)⟩
 exact this _ sl (Nat.le_refl _)
def inL : List St → Nat
 | [] => 0
 | x :: t => max (max (dpL x.bo) (dpL x.el)) (inL t)
theorem dpL_inL : ∀ {l : List St}, 0 < l.length → dpL l = inL l + 1
 | [x], _ => by simp only [dpL, inL, dp_one]; omega
 | x :: y :: t, _ => by
  have := dpL_inL (l := y :: t) (by simp)
  rw [dpL_cons, this, dp_one, show inL (x :: y :: t) = max (max (dpL x.bo) (dpL x.el)) (inL (y :: t)) from rfl]
  omega
theorem inL_app : ∀ a b : List St, inL (a ++ b) = max (inL a) (inL b)
 | [], b => by simp [inL]
 | x :: t, b => by simp only [List.cons_append, inL, inL_app t b]; omega
theorem inL_take {l : List St} {k : Nat} {x : St} (h : l[k]? = some x) : inL (l.take (k + 1)) = max (inL (l.take k)) (max (dpL x.bo) (dpL x.el)) := by rw [take_one h, inL_app]; simp [inL]
theorem inL_le : ∀ l : List St, inL l ≤ dpL l
 | [] => Nat.le_refl _
 | x :: t => by rw [dpL_inL (by simp)]; omega
theorem ordL_len_of : ∀ {l : List St}, (∀ x ∈ l, (ord x).length = cn x) → (ordL l).length = cnL l
 | [], _ => rfl
 | x :: t, h => by rw [ordL, cnL, List.length_append, h x List.mem_cons_self, ordL_len_of fun y hy => h y (List.mem_cons_of_mem _ hy)]
theorem ord_len (x : St) : (ord x).length = cn x := by
 induction x using St.ind with
 | h x h1 h2 =>
  rw [ord_one, cn_one, List.length_cons, List.length_append, ordL_len_of h1, ordL_len_of h2]
theorem ordL_len (l : List St) : (ordL l).length = cnL l := ordL_len_of fun x _ => ord_len x
theorem dpL_le_cnL_of : ∀ {l : List St}, (∀ x ∈ l, dp x ≤ cn x) → dpL l ≤ cnL l
 | [], _ => Nat.le_refl _
 | x :: t, h => by
  have h1 := h x List.mem_cons_self
  have h2 := dpL_le_cnL_of fun y hy => h y (List.mem_cons_of_mem _ hy)
  rw [dpL, cnL]
  omega
theorem dp_le_cn (x : St) : dp x ≤ cn x := by
 induction x using St.ind with
 | h x h1 h2 =>
  have a := dpL_le_cnL_of h1
  have b := dpL_le_cnL_of h2
  rw [dp_one, cn_one]
  omega
theorem dpL_le_cnL (l : List St) : dpL l ≤ cnL l := dpL_le_cnL_of fun x _ => dp_le_cn x
theorem inL_cap (l : List St) (k : Nat) : inL (l.take k) ≤ cnL l := Nat.le_trans (inL_le _) (Nat.le_trans (dpL_le l k) (dpL_le_cnL l))
theorem cnL_le_szL_of : ∀ {l : List St}, (∀ x ∈ l, cn x ≤ sz x) → cnL l ≤ szL l
 | [], _ => Nat.le_refl _
 | x :: t, h => by
  have h1 := h x List.mem_cons_self
  have h2 := cnL_le_szL_of fun y hy => h y (List.mem_cons_of_mem _ hy)
  rw [szL, cnL]
  omega
theorem cn_le_sz (x : St) : cn x ≤ sz x := by
 induction x using St.ind with
 | h x h1 h2 =>
  have a := cnL_le_szL_of h1
  have b := cnL_le_szL_of h2
  rw [sz_one, cn_one]
  unfold sz0
  omega
theorem cnL_le_szL (l : List St) : cnL l ≤ szL l := cnL_le_szL_of fun x _ => cn_le_sz x
def sameDt (x y : Dt) : Bool := decide (x.op = y.op) && (decide (x.a = y.a) && (decide (x.b = y.b) && (decide (x.n = y.n) && (decide (x.vs = y.vs) && decide (x.ws = y.ws)))))
theorem sameDt_iff {x y : Dt} : sameDt x y = true ↔ x = y := by
 obtain ⟨a, b, c, d, e, f⟩ := x
 obtain ⟨a', b', c', d', e', f'⟩ := y
 simp [sameDt]
def same0 (x y : St) : Bool := decide (x.o = y.o) && decide (bs x.nm = bs y.nm) && decide (bs x.f = bs y.f) && (x.fl == y.fl) && Ex.same x.e y.e && Ex.same x.g y.g && Ex.sameL x.ar y.ar && sameDt x.di y.di
mutual
def sameS : St → St → Bool
 | .mk o nm f e g ar di fl bo el, y => same0 (.mk o nm f e g ar di fl bo el) y && sameSL bo y.bo && sameSL el y.el
def sameSL : List St → List St → Bool
 | [], [] => true
 | x :: t, y :: u => sameS x y && sameSL t u
 | [], _ :: _ => false
 | _ :: _, [] => false
end
theorem sameS_one (x y : St) : sameS x y = (same0 x y && sameSL x.bo y.bo && sameSL x.el y.el) := by obtain ⟨o, nm, f, e, g, ar, di, fl, bo, el⟩ := x; rw [sameS]; rfl
theorem sameSL_cons (x y : St) (t u : List St) : sameSL (x :: t) (y :: u) = (sameS x y && sameSL t u) := by rw [sameSL]
theorem sameSL_eq_of : ∀ {l m : List St}, (∀ x ∈ l, ∀ y, sameS x y = true ↔ x = y) → (sameSL l m = true ↔ l = m)
 | [], [], _ => by simp [sameSL]
 | x :: t, y :: u, h => by
  rw [sameSL_cons, Bool.and_eq_true, h x List.mem_cons_self y, sameSL_eq_of fun z hz => h z (List.mem_cons_of_mem _ hz), List.cons.injEq]
 | [], _ :: _, _ => by simp [sameSL]
 | _ :: _, [], _ => by simp [sameSL]
theorem sameS_iff (x : St) : ∀ y, sameS x y = true ↔ x = y := by
 induction x using St.ind with
 | h x h1 h2 =>
  intro y
  rw [sameS_one, Bool.and_eq_true, Bool.and_eq_true, sameSL_eq_of h1, sameSL_eq_of h2]
  obtain ⟨o, nm, f, e, g, ar, di, fl, bo, el⟩ := x
  obtain ⟨o', nm', f', e', g', ar', di', fl', bo', el'⟩ := y
  simp only [same0, Bool.and_eq_true, decide_eq_true_eq, beq_iff_eq, sameDt_iff, Ex.same_iff]
  simp only [St.o, St.nm, St.f, St.e, St.g, St.ar, St.di, St.fl, St.bo, St.el, St.mk.injEq]
  have e1 : bs nm = bs nm' ↔ nm = nm' := ⟨bs_inj, fun h => by rw [h]⟩
  have e2 : bs f = bs f' ↔ f = f' := ⟨bs_inj, fun h => by rw [h]⟩
  have e3 : Ex.sameL ar ar' = true ↔ ar = ar' := ⟨Ex.sameL_eq, fun h => by rw [h]; exact Ex.sameL_self _⟩
  rw [e1, e2, e3]
  constructor
  · rintro ⟨⟨⟨⟨⟨⟨⟨⟨⟨q1, q2⟩, q3⟩, q4⟩, q5⟩, q6⟩, q7⟩, q8⟩, q9⟩, q10⟩; exact ⟨q1, q2, q3, q5, q6, q7, q8, q4, q9, q10⟩
  · rintro ⟨q1, q2, q3, q5, q6, q7, q8, q4, q9, q10⟩; exact ⟨⟨⟨⟨⟨⟨⟨⟨⟨q1, q2⟩, q3⟩, q4⟩, q5⟩, q6⟩, q7⟩, q8⟩, q9⟩, q10⟩
theorem sameSL_iff {l m : List St} : sameSL l m = true ↔ l = m := sameSL_eq_of fun x _ => sameS_iff x
theorem sameSL_self (l : List St) : sameSL l l = true := sameSL_iff.2 rfl
theorem sameSL_len {a b : List St} (h : ¬ a.length = b.length) : sameSL a b = false := by
 cases g : sameSL a b with
 | false => rfl
 | true => exact absurd (by rw [sameSL_iff.1 g]) h
theorem sameSL_stop {l l2 : List St} {k : Nat} {x y : St} (hx : l[k]? = some x) (hy : l2[k]? = some y) (h : sameS x y = false) : sameSL l l2 = false := by
 cases g : sameSL l l2 with
 | false => rfl
 | true =>
  have := sameSL_iff.1 g
  subst this
  rw [hx] at hy
  cases hy
  rw [(sameS_iff x x).2 rfl] at h
  cases h
theorem takeS_same {l l2 : List St} {k : Nat} {x y : St} (hx : l[k]? = some x) (hy : l2[k]? = some y) (h : sameS x y = true) (g : l.take k = l2.take k) : l.take (k + 1) = l2.take (k + 1) := by rw [take_one hx, take_one hy, (sameS_iff x y).1 h, g]
def kn (o : Int) : Bool := decide (1 ≤ o) && decide (o ≤ 18)
def uN (o : Int) : Bool := decide (o = 1 ∨ o = 2 ∨ o = 6 ∨ o = 7 ∨ o = 8 ∨ o = 9 ∨ o = 10 ∨ o = 11 ∨ o = 12 ∨ o = 13 ∨ o = 14 ∨ o = 15 ∨ o = 16 ∨ o = 17)
def uO (o : Int) : Bool := decide (o = 2 ∨ o = 9 ∨ o = 13)
def uE (o : Int) : Bool := decide (o = 1 ∨ o = 3 ∨ o = 4 ∨ o = 5 ∨ o = 6 ∨ o = 7 ∨ o = 8 ∨ o = 12 ∨ o = 13 ∨ o = 14 ∨ o = 15 ∨ o = 16 ∨ o = 17)
def uF (o : Int) : Bool := decide (o = 6)
def uA (o : Int) : Bool := decide (o = 13 ∨ o = 14)
def uD (o : Int) : Bool := decide (o = 2)
def uG (o : Int) : Bool := decide (o = 6)
def uB (o : Int) : Bool := decide (o = 3 ∨ o = 4)
def uL (o : Int) : Bool := decide (o = 3)
abbrev nE : ByteArray := ⟨#[]⟩
def zE : Ex := .mk 0 nE 0 []
def zD : Dt := ⟨0, 0, 0, 0, [], []⟩
def frm (x : St) : Bool := (uN x.o || decide (bs x.nm = [])) && (uO x.o || decide (bs x.f = [])) && (uE x.o || Ex.same x.e zE) && (uF x.o || Ex.same x.g zE) && (uA x.o || decide (x.ar.length = 0)) && (uD x.o || sameDt x.di zD) && (uG x.o || !x.fl) && (uB x.o || decide (x.bo.length = 0)) && (uL x.o || decide (x.el.length = 0))
def orE (a b : Int) : Int := if a = 0 then b else a
def onE (u : Bool) (v : Int) : Int := if u then v else 0
def badA : List Ex → Int
 | [] => 0
 | x :: t => orE (chkE false x) (badA t)
def argE (l : List Ex) : Int := if 6 < l.length then 6 else badA l
def dtE (d : Dt) : Int := Di.errD d.op d.a d.b d.n d.vs.length d.ws.length (fun i => d.vs.getD i 0) (fun i => d.ws.getD i 0)
def restE (x : St) : Int := orE (onE (uN x.o) (chk (bs x.nm))) (orE (onE (uO x.o) (chk (bs x.f))) (orE (onE (uE x.o) (chkE false x.e)) (orE (onE (uF x.o) (chkE false x.g)) (orE (onE (uA x.o) (argE x.ar)) (onE (uD x.o) (dtE x.di))))))
def oneE (x : St) : Int := if kn x.o && frm x then restE x else 1
def badS : List St → Int
 | [] => 0
 | x :: t => orE (oneE x) (badS t)
theorem orE_no {a b : Int} (h : ¬ a = 0) : orE a b = a := if_neg h
theorem orE_yes {b : Int} : orE 0 b = b := if_pos rfl
theorem orE_right (a : Int) : orE a 0 = a := by unfold orE; split <;> simp_all
theorem orE_assoc (a b c : Int) : orE (orE a b) c = orE a (orE b c) := by unfold orE; split <;> simp_all
theorem badA_app : ∀ a b : List Ex, badA (a ++ b) = orE (badA a) (badA b)
 | [], b => orE_yes.symm
 | x :: t, b => by rw [List.cons_append, badA, badA, badA_app t b, orE_assoc]
theorem badA_take {l : List Ex} {k : Nat} {x : Ex} (h : l[k]? = some x) : badA (l.take (k + 1)) = orE (badA (l.take k)) (chkE false x) := by rw [take_one h, badA_app]; simp [badA, orE_right]
theorem badA_stop {l : List Ex} {k : Nat} {x : Ex} (h : l[k]? = some x) (h0 : badA (l.take k) = 0) (h1 : ¬ chkE false x = 0) : badA l = chkE false x := by
 have h2 := badA_app (l.take (k + 1)) (l.drop (k + 1))
 rw [List.take_append_drop, badA_take h, h0, orE_yes, orE_no h1] at h2
 exact h2
theorem badS_app : ∀ a b : List St, badS (a ++ b) = orE (badS a) (badS b)
 | [], b => orE_yes.symm
 | x :: t, b => by rw [List.cons_append, badS, badS, badS_app t b, orE_assoc]
theorem badS_snoc {l : List St} {x : St} (h : badS l = 0) : badS (l ++ [x]) = oneE x := by rw [badS_app, h, orE_yes, badS, badS, orE_right]
def chkL (l : List St) : Int := if 200 < cnL l then 6 else if 12 < dpL l then 11 else badS (ordL l)
end Go.Proofs.YtaaffmbnhjaebaaGreat.Sm
namespace Go.Proofs.YtaaffmbnhjaebaaGreat.Sm
open Go.RowKit
open Go.Proofs.YtaaffmbnhjaebaaGreat.Ex (Ex Kin In Sz Lo)
set_option maxHeartbeats 1000000
set_option linter.unusedVariables false
structure Pl where
 ep : Option Addr
 em : Nat
 ec : Nat
 gp : Option Addr
 gm : Nat
 gc : Nat
 ap : Option Addr
 am : Nat
 ac : Nat
 vp : Option Addr
 vm : Nat
 vc : Nat
 wp : Option Addr
 wm : Nat
 wc : Nat
 bp : Option Addr
 bm : Nat
 bc : Nat
 lp : Option Addr
 lm : Nat
 lc : Nat
def cs (x : St) (P : Pl) : Array Value := #[.int .i64 x.o, .string x.nm, .string x.f, .int .i64 x.e.o, .string x.e.s, .int .i64 x.e.n, .slice P.ep P.em P.ec, .int .i64 x.g.o, .string x.g.s, .int .i64 x.g.n, .slice P.gp P.gm P.gc, .slice P.ap P.am P.ac, .int .i64 x.di.op, .int .i64 x.di.a, .int .i64 x.di.b, .int .i64 x.di.n, .slice P.vp P.vm P.vc, .slice P.wp P.wm P.wc, .bool x.fl, .slice P.bp P.bm P.bc, .slice P.lp P.lm P.lc]
theorem cs_size (x : St) (P : Pl) : (cs x P).size = 21 := rfl
theorem cs_one (x : St) (P : Pl) : (cs x P).all (·.oneCell') = true := by unfold cs; simp [Value.oneCell']
theorem cs0 (x : St) (P : Pl) : (cs x P)[0]? = some (.int .i64 x.o) := rfl
theorem cs1 (x : St) (P : Pl) : (cs x P)[1]? = some (.string x.nm) := rfl
theorem cs2 (x : St) (P : Pl) : (cs x P)[2]? = some (.string x.f) := rfl
theorem cs3 (x : St) (P : Pl) : (cs x P)[3]? = some (.int .i64 x.e.o) := rfl
theorem cs4 (x : St) (P : Pl) : (cs x P)[4]? = some (.string x.e.s) := rfl
theorem cs5 (x : St) (P : Pl) : (cs x P)[5]? = some (.int .i64 x.e.n) := rfl
theorem cs6 (x : St) (P : Pl) : (cs x P)[6]? = some (.slice P.ep P.em P.ec) := rfl
theorem cs7 (x : St) (P : Pl) : (cs x P)[7]? = some (.int .i64 x.g.o) := rfl
theorem cs8 (x : St) (P : Pl) : (cs x P)[8]? = some (.string x.g.s) := rfl
theorem cs9 (x : St) (P : Pl) : (cs x P)[9]? = some (.int .i64 x.g.n) := rfl
theorem cs10 (x : St) (P : Pl) : (cs x P)[10]? = some (.slice P.gp P.gm P.gc) := rfl
theorem cs11 (x : St) (P : Pl) : (cs x P)[11]? = some (.slice P.ap P.am P.ac) := rfl
theorem cs12 (x : St) (P : Pl) : (cs x P)[12]? = some (.int .i64 x.di.op) := rfl
theorem cs13 (x : St) (P : Pl) : (cs x P)[13]? = some (.int .i64 x.di.a) := rfl
theorem cs14 (x : St) (P : Pl) : (cs x P)[14]? = some (.int .i64 x.di.b) := rfl
theorem cs15 (x : St) (P : Pl) : (cs x P)[15]? = some (.int .i64 x.di.n) := rfl
theorem cs16 (x : St) (P : Pl) : (cs x P)[16]? = some (.slice P.vp P.vm P.vc) := rfl
theorem cs17 (x : St) (P : Pl) : (cs x P)[17]? = some (.slice P.wp P.wm P.wc) := rfl
theorem cs18 (x : St) (P : Pl) : (cs x P)[18]? = some (.bool x.fl) := rfl
theorem cs19 (x : St) (P : Pl) : (cs x P)[19]? = some (.slice P.bp P.bm P.bc) := rfl
theorem cs20 (x : St) (P : Pl) : (cs x P)[20]? = some (.slice P.lp P.lm P.lc) := rfl
def cell21 (w : World) (g o : Nat) (x : St) (P : Pl) : Prop := ∀ r v, (cs x P)[r]? = some v → w.cell? ⟨g, o + r, none⟩ = some v
theorem cell21.keep {w w2 : World} {g o : Nat} {x : St} {P : Pl} (hb : w2.heap[g]? = w.heap[g]?) (h : cell21 w g o x P) : cell21 w2 g o x P := fun r v hv => (World.cell?_of_block (w := w) (a := ⟨g, o + r, none⟩) hb).trans (h r v hv)
theorem cell21.on {w w2 : World} {g o : Nat} {x : St} {P : Pl} (hb : Below w.heap.size w w2) (hg : g < w.heap.size) (h : cell21 w g o x P) : cell21 w2 g o x P := h.keep (hb.block g hg)
theorem st_info : (Tryz.prog.info? 173).map (·.size) = some 21 := by kernel_rfl
theorem st_under : ∃ d, Tryz.prog.underlying 173 = some d ∧ d.isRow = true := ⟨_, Tryz.underlying173, rfl⟩
theorem cell21.range {w : World} {g o : Nat} {x : St} {P : Pl} (h : cell21 w g o x P) : w.rangeAt g o (cs x P).toList := fun j v hv => h j v (by rwa [Array.getElem?_toList] at hv)
theorem cell21.load {w : World} {g o : Nat} {x : St} {P : Pl} (h : cell21 w g o x P) : (loadCellsFrom ⟨g, o, none⟩ 0 21 #[]).run Tryz.prog w = .ok (cs x P) w := by
 have := run_loadCells_list (P := Tryz.prog) w ⟨g, o, none⟩ (cs x P).toList (fun j v hv => by rw [Addr.add_mid]; exact h j v (by rwa [Array.getElem?_toList] at hv))
 rw [Array.length_toList, cs_size, Array.toArray_toList] at this
 exact this
theorem cell21.loadVar {w : World} {g o : Nat} {x : St} {P : Pl} (h : cell21 w g o x P) : (loadVar 173 ⟨g, o, none⟩).run Tryz.prog w = .ok (.agg (cs x P)) w := by
 obtain ⟨d, h1, h2⟩ := st_under
 have := run_loadVar_mid (P := Tryz.prog) w g o 173 (cs x P).toList d h.range h1 h2 (by rw [st_info]; rfl)
 rwa [Array.toArray_toList] at this
theorem cell21.loadAt {w : World} {g o : Nat} {x : St} {P : Pl} (h : cell21 w g o x P) : (Instr.loadAt 173 (.pointer (some ⟨g, o, none⟩))).run Tryz.prog w = .ok (.agg (cs x P)) w := by
 simp only [Instr.loadAt, Instr.sureAddr, Sem.run_bind, Sem.run_pure, Result.andThen_ok, h.loadVar]
theorem cell21.ldN {w : World} {g o n : Nat} {x : St} {P : Pl} (h : cell21 w g o x P) (hn : 21 = n) : (loadCellsFrom ⟨g, o, none⟩ 0 n #[]).run Tryz.prog w = .ok (cs x P) w := by subst hn; exact h.load
theorem cell21.at {w : World} {g o k n : Nat} {x : St} {P : Pl} (h : cell21 w g (o + k * 21) x P) (hn : 21 = n) : cell21 w g (o + k * n) x P := by subst hn; exact h
theorem st_store (x : St) (P : Pl) (z : Array Value) (hz : z.size = 21) (w : World) : (storeCells ⟨w.heap.size, 0, none⟩ (cs x P).toList 0).run Tryz.prog (w.alloc (.cells z 173)) = .ok () (w.alloc (.cells (cs x P) 173)) :=
 run_storeCells_new w _ _ _ (by rw [st_info]; rfl) hz (cs_one x P)
theorem st_storeVar (x : St) (P : Pl) (z : Array Value) (hz : z.size = 21) (w : World) : (storeVar 173 ⟨w.heap.size, 0, none⟩ (.agg (cs x P))).run Tryz.prog (w.alloc (.cells z 173)) = .ok () (w.alloc (.cells (cs x P) 173)) :=
 run_storeVar_new w _ _ _ (by rw [st_info]; rfl) hz (cs_one x P)
theorem st_storeAt (x : St) (P : Pl) (z : Array Value) (hz : z.size = 21) (w : World) : (Instr.storeAt 173 (.pointer (some ⟨w.heap.size, 0, none⟩)) (.agg (cs x P))).run Tryz.prog (w.alloc (.cells z 173)) = .ok () (w.alloc (.cells (cs x P) 173)) :=
 run_storeAt_new w _ _ _ (by rw [st_info]; rfl) hz (cs_one x P)
def box21 (w : World) (g : Nat) (x : St) (P : Pl) : Prop := w.heap[g]? = some (.cells (cs x P) 173 (0, 0))
theorem box21.cell {w : World} {g : Nat} {x : St} {P : Pl} (h : box21 w g x P) : cell21 w g 0 x P := fun r v hv => by
 rw [Nat.zero_add, cell_of_row w g r _ _ _ h]; exact hv
theorem box21.c0 {w : World} {g : Nat} {x : St} {P : Pl} (h : box21 w g x P) : w.cell? ⟨g, 0, none⟩ = some (.int .i64 x.o) := cell_of_row w g 0 _ _ _ h
theorem box21.c1 {w : World} {g : Nat} {x : St} {P : Pl} (h : box21 w g x P) : w.cell? ⟨g, 1, none⟩ = some (.string x.nm) := cell_of_row w g 1 _ _ _ h
theorem box21.c2 {w : World} {g : Nat} {x : St} {P : Pl} (h : box21 w g x P) : w.cell? ⟨g, 2, none⟩ = some (.string x.f) := cell_of_row w g 2 _ _ _ h
theorem box21.c3 {w : World} {g : Nat} {x : St} {P : Pl} (h : box21 w g x P) : w.cell? ⟨g, 3, none⟩ = some (.int .i64 x.e.o) := cell_of_row w g 3 _ _ _ h
theorem box21.c4 {w : World} {g : Nat} {x : St} {P : Pl} (h : box21 w g x P) : w.cell? ⟨g, 4, none⟩ = some (.string x.e.s) := cell_of_row w g 4 _ _ _ h
theorem box21.c5 {w : World} {g : Nat} {x : St} {P : Pl} (h : box21 w g x P) : w.cell? ⟨g, 5, none⟩ = some (.int .i64 x.e.n) := cell_of_row w g 5 _ _ _ h
theorem box21.c6 {w : World} {g : Nat} {x : St} {P : Pl} (h : box21 w g x P) : w.cell? ⟨g, 6, none⟩ = some (.slice P.ep P.em P.ec) := cell_of_row w g 6 _ _ _ h
theorem box21.c7 {w : World} {g : Nat} {x : St} {P : Pl} (h : box21 w g x P) : w.cell? ⟨g, 7, none⟩ = some (.int .i64 x.g.o) := cell_of_row w g 7 _ _ _ h
theorem box21.c8 {w : World} {g : Nat} {x : St} {P : Pl} (h : box21 w g x P) : w.cell? ⟨g, 8, none⟩ = some (.string x.g.s) := cell_of_row w g 8 _ _ _ h
theorem box21.c9 {w : World} {g : Nat} {x : St} {P : Pl} (h : box21 w g x P) : w.cell? ⟨g, 9, none⟩ = some (.int .i64 x.g.n) := cell_of_row w g 9 _ _ _ h
theorem box21.c10 {w : World} {g : Nat} {x : St} {P : Pl} (h : box21 w g x P) : w.cell? ⟨g, 10, none⟩ = some (.slice P.gp P.gm P.gc) := cell_of_row w g 10 _ _ _ h
theorem box21.c11 {w : World} {g : Nat} {x : St} {P : Pl} (h : box21 w g x P) : w.cell? ⟨g, 11, none⟩ = some (.slice P.ap P.am P.ac) := cell_of_row w g 11 _ _ _ h
theorem box21.c12 {w : World} {g : Nat} {x : St} {P : Pl} (h : box21 w g x P) : w.cell? ⟨g, 12, none⟩ = some (.int .i64 x.di.op) := cell_of_row w g 12 _ _ _ h
theorem box21.c13 {w : World} {g : Nat} {x : St} {P : Pl} (h : box21 w g x P) : w.cell? ⟨g, 13, none⟩ = some (.int .i64 x.di.a) := cell_of_row w g 13 _ _ _ h
theorem box21.c14 {w : World} {g : Nat} {x : St} {P : Pl} (h : box21 w g x P) : w.cell? ⟨g, 14, none⟩ = some (.int .i64 x.di.b) := cell_of_row w g 14 _ _ _ h
theorem box21.c15 {w : World} {g : Nat} {x : St} {P : Pl} (h : box21 w g x P) : w.cell? ⟨g, 15, none⟩ = some (.int .i64 x.di.n) := cell_of_row w g 15 _ _ _ h
theorem box21.c16 {w : World} {g : Nat} {x : St} {P : Pl} (h : box21 w g x P) : w.cell? ⟨g, 16, none⟩ = some (.slice P.vp P.vm P.vc) := cell_of_row w g 16 _ _ _ h
theorem box21.c17 {w : World} {g : Nat} {x : St} {P : Pl} (h : box21 w g x P) : w.cell? ⟨g, 17, none⟩ = some (.slice P.wp P.wm P.wc) := cell_of_row w g 17 _ _ _ h
theorem box21.c18 {w : World} {g : Nat} {x : St} {P : Pl} (h : box21 w g x P) : w.cell? ⟨g, 18, none⟩ = some (.bool x.fl) := cell_of_row w g 18 _ _ _ h
theorem box21.c19 {w : World} {g : Nat} {x : St} {P : Pl} (h : box21 w g x P) : w.cell? ⟨g, 19, none⟩ = some (.slice P.bp P.bm P.bc) := cell_of_row w g 19 _ _ _ h
theorem box21.c20 {w : World} {g : Nat} {x : St} {P : Pl} (h : box21 w g x P) : w.cell? ⟨g, 20, none⟩ = some (.slice P.lp P.lm P.lc) := cell_of_row w g 20 _ _ _ h
theorem box_new21 {w : World} {x : St} {P : Pl} : box21 (w.alloc (.cells (cs x P) 173)) w.heap.size x P := World.alloc_heap_new w _
theorem box21.lt {w : World} {g : Nat} {x : St} {P : Pl} (h : box21 w g x P) : g < w.heap.size := (Array.getElem?_eq_some_iff.1 h).1
theorem box21.keep {w w2 : World} {g : Nat} {x : St} {P : Pl} (hb : w2.heap[g]? = w.heap[g]?) (h : box21 w g x P) : box21 w2 g x P := hb.trans h
theorem box21.on {w w2 : World} {g : Nat} {x : St} {P : Pl} (hb : Below w.heap.size w w2) (h : box21 w g x P) : box21 w2 g x P := h.keep (hb.block g h.lt)
def Lie (G : Nat → Prop) (w : World) (n m : Nat) (p : Option Addr) (R : Nat → Nat → Prop) : Prop := n = m ∧ m ≤ 9223372036854775807 ∧ (m = 0 ∨ ∃ b o, p = some ⟨b, o, none⟩ ∧ G b ∧ b < w.heap.size ∧ R b o)
def Ints (G : Nat → Prop) (w : World) (l : List Int) (p : Option Addr) (m : Nat) : Prop := Lie G w l.length m p fun b o => Hid (∀ k, (h : k < l.length) → w.cell? ⟨b, o + k, none⟩ = some (.int .i64 l[k]))
def Own0 (G : Nat → Prop) (w : World) (e g : Ex) (ar : List Ex) (di : Dt) (P : Pl) : Prop := Kin G w e P.ep P.em ∧ Kin G w g P.gp P.gm ∧ Kin G w (.mk 0 nE 0 ar) P.ap P.am ∧ Ints G w di.vs P.vp P.vm ∧ Ints G w di.ws P.wp P.wm
mutual
def Sin (G : Nat → Prop) (w : World) : St → Pl → Prop
 | .mk _ _ _ e g ar di _ bo el, P => Own0 G w e g ar di P ∧ Lie G w bo.length P.bm P.bp (fun b o => Hid (RowsS G w bo b o)) ∧ Lie G w el.length P.lm P.lp (fun b o => Hid (RowsS G w el b o))
def RowsS (G : Nat → Prop) (w : World) : List St → Nat → Nat → Prop
 | [], _, _ => True
 | x :: t, b, o => (∃ P, cell21 w b o x P ∧ Sin G w x P) ∧ RowsS G w t b (o + 21)
end
def Lin (G : Nat → Prop) (w : World) (l : List St) (p : Option Addr) (m : Nat) : Prop := Lie G w l.length m p fun b o => Hid (∀ k, (h : k < l.length) → ∃ P, cell21 w b (o + k * 21) l[k] P ∧ Sin G w l[k] P)
theorem rowsS_iff {G : Nat → Prop} {w : World} : ∀ {l : List St} {b o : Nat}, RowsS G w l b o ↔ ∀ k, (h : k < l.length) → ∃ P, cell21 w b (o + k * 21) l[k] P ∧ Sin G w l[k] P
 | [], b, o => ⟨fun _ k h => absurd h (Nat.not_lt_zero _), fun _ => by rw [RowsS]; trivial⟩
 | x :: t, b, o => by
  rw [RowsS]
  constructor
  · rintro ⟨h1, h2⟩ k hk
    match k, hk with
    | 0, _ => rw [show o + 0 * 21 = o by omega]; exact h1
    | k + 1, hk =>
     have := rowsS_iff.1 h2 k (by simpa using hk)
     rw [show o + 21 + k * 21 = o + (k + 1) * 21 by omega] at this
     exact this
  · intro h
    refine ⟨by have := h 0 (by simp); rw [show o + 0 * 21 = o by omega] at this; exact this, rowsS_iff.2 fun k hk => ?_⟩
    have := h (k + 1) (by simpa using hk)
    rw [show o + (k + 1) * 21 = o + 21 + k * 21 by omega] at this
    exact this
theorem Lie.imp {G H : Nat → Prop} {w w2 : World} {n m : Nat} {p : Option Addr} {R R' : Nat → Nat → Prop} (hs : w.heap.size ≤ w2.heap.size) (hk : ∀ b, G b → b < w.heap.size → H b ∧ w2.heap[b]? = w.heap[b]?) (hR : ∀ b o, G b → b < w.heap.size → R b o → R' b o) (h : Lie G w n m p R) : Lie H w2 n m p R' := by
 obtain ⟨h1, h2, h3 | ⟨b, o, rfl, hg, hb, h4⟩⟩ := h
 · exact ⟨h1, h2, .inl h3⟩
 · exact ⟨h1, h2, .inr ⟨b, o, rfl, (hk b hg hb).1, by omega, hR b o hg hb h4⟩⟩
theorem sin_iff {G : Nat → Prop} {w : World} {x : St} {P : Pl} : Sin G w x P ↔ Own0 G w x.e x.g x.ar x.di P ∧ Lin G w x.bo P.bp P.bm ∧ Lin G w x.el P.lp P.lm := by
 obtain ⟨o, nm, f, e, g, ar, di, fl, bo, el⟩ := x
 rw [Sin]
 have key : ∀ (l : List St) (p : Option Addr) (m : Nat), Lie G w l.length m p (fun b o => Hid (RowsS G w l b o)) ↔ Lin G w l p m := fun l p m =>
  ⟨Lie.imp (Nat.le_refl _) (fun b hg _ => ⟨hg, rfl⟩) (fun b o _ _ h => Lib.hid (rowsS_iff.1 h.out)), Lie.imp (Nat.le_refl _) (fun b hg _ => ⟨hg, rfl⟩) (fun b o _ _ h => Lib.hid (rowsS_iff.2 h.out))⟩
 rw [key, key]
 rfl
theorem Ints.map {G H : Nat → Prop} {w w2 : World} (hs : w.heap.size ≤ w2.heap.size) (hk : ∀ b, G b → b < w.heap.size → H b ∧ w2.heap[b]? = w.heap[b]?) {l : List Int} {p : Option Addr} {m : Nat} (h : Ints G w l p m) : Ints H w2 l p m :=
 Lie.imp hs hk (fun b o hg hb h => Lib.hid fun k hl => (World.cell?_of_block (w := w) (a := ⟨b, o + k, none⟩) (hk b hg hb).2).trans (h.out k hl)) h
theorem Own0.map {G H : Nat → Prop} {w w2 : World} (hs : w.heap.size ≤ w2.heap.size) (hk : ∀ b, G b → b < w.heap.size → H b ∧ w2.heap[b]? = w.heap[b]?) {e g : Ex} {ar : List Ex} {di : Dt} {P : Pl} (h : Own0 G w e g ar di P) : Own0 H w2 e g ar di P :=
 ⟨Kin.map hs hk e h.1, Kin.map hs hk g h.2.1, Kin.map hs hk _ h.2.2.1, h.2.2.2.1.map hs hk, h.2.2.2.2.map hs hk⟩
theorem Lin.map_of {G H : Nat → Prop} {w w2 : World} (hs : w.heap.size ≤ w2.heap.size) (hk : ∀ b, G b → b < w.heap.size → H b ∧ w2.heap[b]? = w.heap[b]?) {l : List St} (ih : ∀ x ∈ l, ∀ {P : Pl}, Sin G w x P → Sin H w2 x P) {p : Option Addr} {m : Nat} (h : Lin G w l p m) : Lin H w2 l p m :=
 Lie.imp hs hk (fun b o hg hb h => Lib.hid fun k hl => let ⟨P, h1, h2⟩ := h.out k hl; ⟨P, h1.keep (hk b hg hb).2, ih _ (List.getElem_mem hl) h2⟩) h
theorem Sin.map {G H : Nat → Prop} {w w2 : World} (hs : w.heap.size ≤ w2.heap.size) (hk : ∀ b, G b → b < w.heap.size → H b ∧ w2.heap[b]? = w.heap[b]?) (x : St) : ∀ {P : Pl}, Sin G w x P → Sin H w2 x P := by
 induction x using St.ind with
 | h x h1 h2 =>
  intro P h
  rw [sin_iff] at h ⊢
  exact ⟨h.1.map hs hk, Lin.map_of hs hk h1 h.2.1, Lin.map_of hs hk h2 h.2.2⟩
theorem Lin.map {G H : Nat → Prop} {w w2 : World} (hs : w.heap.size ≤ w2.heap.size) (hk : ∀ b, G b → b < w.heap.size → H b ∧ w2.heap[b]? = w.heap[b]?) {l : List St} {p : Option Addr} {m : Nat} (h : Lin G w l p m) : Lin H w2 l p m := Lin.map_of hs hk (fun x _ => Sin.map hs hk x) h
theorem Lin.mono {G H : Nat → Prop} {w : World} {l : List St} {p : Option Addr} {m : Nat} (hk : ∀ b, G b → b < w.heap.size → H b) (h : Lin G w l p m) : Lin H w l p m := h.map (Nat.le_refl _) fun b g hb => ⟨hk b g hb, rfl⟩
theorem Sin.mono {G H : Nat → Prop} {w : World} {x : St} {P : Pl} (hk : ∀ b, G b → b < w.heap.size → H b) (h : Sin G w x P) : Sin H w x P := Sin.map (Nat.le_refl _) (fun b g hb => ⟨hk b g hb, rfl⟩) x h
abbrev LIn (w : World) (l : List St) (p : Option Addr) (m : Nat) : Prop := Lin (Lo w.heap.size) w l p m
abbrev SIn (w : World) (x : St) (P : Pl) : Prop := Sin (Lo w.heap.size) w x P
theorem Lin.below {B : Nat} {w w2 : World} {l : List St} {p : Option Addr} {m : Nat} (hb : Below B w w2) (h : Lin (Lo B) w l p m) : Lin (Lo B) w2 l p m := h.map hb.size fun b g _ => ⟨g, hb.block b g⟩
theorem Sin.below {B : Nat} {w w2 : World} {x : St} {P : Pl} (hb : Below B w w2) (h : Sin (Lo B) w x P) : Sin (Lo B) w2 x P := Sin.map hb.size (fun b g _ => ⟨g, hb.block b g⟩) x h
theorem Lin.all {G : Nat → Prop} {w : World} {l : List St} {p : Option Addr} {m : Nat} (h : Lin G w l p m) : LIn w l p m := h.mono fun b _ hb => hb
theorem Sin.all {G : Nat → Prop} {w : World} {x : St} {P : Pl} (h : Sin G w x P) : SIn w x P := h.mono fun b _ hb => hb
theorem Lin.on {w w2 : World} {l : List St} {p : Option Addr} {m : Nat} (hb : Below w.heap.size w w2) (h : LIn w l p m) : LIn w2 l p m := (h.below hb).all
theorem Sin.on {w w2 : World} {x : St} {P : Pl} (hb : Below w.heap.size w w2) (h : SIn w x P) : SIn w2 x P := (h.below hb).all
theorem Lin.len {G : Nat → Prop} {w : World} {l : List St} {p : Option Addr} {m : Nat} (h : Lin G w l p m) : l.length = m ∧ m ≤ 9223372036854775807 := ⟨h.1, h.2.1⟩
theorem Lin.nil {G : Nat → Prop} {w : World} {p : Option Addr} : Lin G w [] p 0 := ⟨rfl, by omega, .inl rfl⟩
theorem Lin.rows {G : Nat → Prop} {w : World} {l : List St} {p : Option Addr} {m : Nat} (h : Lin G w l p m) (hm : 0 < m) : ∃ b o, p = some ⟨b, o, none⟩ ∧ G b ∧ b < w.heap.size ∧ Hid (∀ k, (h : k < l.length) → ∃ P, cell21 w b (o + k * 21) l[k] P ∧ Sin G w l[k] P) := by
 rcases h.2.2 with h | h
 · omega
 · exact h
theorem Sin.bo {G : Nat → Prop} {w : World} {x : St} {P : Pl} (h : Sin G w x P) : Lin G w x.bo P.bp P.bm := (sin_iff.1 h).2.1
theorem Sin.el {G : Nat → Prop} {w : World} {x : St} {P : Pl} (h : Sin G w x P) : Lin G w x.el P.lp P.lm := (sin_iff.1 h).2.2
theorem Sin.own0 {G : Nat → Prop} {w : World} {x : St} {P : Pl} (h : Sin G w x P) : Own0 G w x.e x.g x.ar x.di P := (sin_iff.1 h).1
theorem Sin.e {G : Nat → Prop} {w : World} {x : St} {P : Pl} (h : Sin G w x P) : In w x.e P.ep P.em := h.own0.1.all
theorem Sin.g {G : Nat → Prop} {w : World} {x : St} {P : Pl} (h : Sin G w x P) : In w x.g P.gp P.gm := h.own0.2.1.all
theorem Sin.ar {G : Nat → Prop} {w : World} {x : St} {P : Pl} (h : Sin G w x P) : In w (.mk 0 nE 0 x.ar) P.ap P.am := h.own0.2.2.1.all
theorem Ints.row {G : Nat → Prop} {w : World} {l : List Int} {p : Option Addr} {m : Nat} (h : Ints G w l p m) : Di.Row w p l.length (fun i => l.getD i 0) := by
 obtain ⟨h1, h2, h3 | ⟨b, o, rfl, hg, hb, h4⟩⟩ := h
 · exact ⟨by omega, .inl (by omega)⟩
 · refine ⟨by omega, .inr ⟨b, o, rfl, hb, Lib.hid fun i hi => ?_⟩⟩
   rw [h4.out i hi]
   simp [List.getD, List.getElem?_eq_getElem hi]
theorem Sin.vs {G : Nat → Prop} {w : World} {x : St} {P : Pl} (h : Sin G w x P) : Di.Row w P.vp x.di.vs.length (fun i => x.di.vs.getD i 0) := h.own0.2.2.2.1.row
theorem Sin.ws {G : Nat → Prop} {w : World} {x : St} {P : Pl} (h : Sin G w x P) : Di.Row w P.wp x.di.ws.length (fun i => x.di.ws.getD i 0) := h.own0.2.2.2.2.row
theorem Sin.vlen {G : Nat → Prop} {w : World} {x : St} {P : Pl} (h : Sin G w x P) : x.di.vs.length = P.vm := h.own0.2.2.2.1.1
theorem Sin.wlen {G : Nat → Prop} {w : World} {x : St} {P : Pl} (h : Sin G w x P) : x.di.ws.length = P.wm := h.own0.2.2.2.2.1
def SzS (x : St) : Prop := x.nm.size ≤ 140737488355328 ∧ x.f.size ≤ 140737488355328 ∧ (Sz x.e ∧ Ex.cnt x.e ≤ 1000000) ∧ (Sz x.g ∧ Ex.cnt x.g ≤ 1000000) ∧ ∀ y ∈ x.ar, Sz y ∧ Ex.cnt y ≤ 1000000
def SzL (l : List St) : Prop := ∀ x ∈ ordL l, SzS x
theorem SzL.mem {l : List St} (h : SzL l) {x : St} (hx : x ∈ l) : SzS x := h x (ordL_self hx)
theorem SzL.bo {l : List St} (h : SzL l) {x : St} (hx : x ∈ l) : SzL x.bo := fun y hy => h y (ordL_mem hx (ord_bo hy))
theorem SzL.el {l : List St} (h : SzL l) {x : St} (hx : x ∈ l) : SzL x.el := fun y hy => h y (ordL_mem hx (ord_el hy))
theorem SzL.app {a b : List St} (ha : SzL a) (hb : SzL b) : SzL (a ++ b) := fun x hx => by
 rw [ordL_app] at hx
 rcases List.mem_append.1 hx with h | h
 · exact ha x h
 · exact hb x h
end Go.Proofs.YtaaffmbnhjaebaaGreat.Sm
namespace Go.Proofs.YtaaffmbnhjaebaaGreat.Md
open Go.Proofs.YtaaffmbnhjaebaaGreat.Na (bs bs_inj chk fst fst_ge)
open Go.Proofs.YtaaffmbnhjaebaaGreat.Sm (St Dt sameDt sameDt_iff sameSL sameSL_iff chkL dtE orE orE_no orE_yes zD nE)
set_option linter.unusedVariables false
instance byteEq : DecidableEq ByteArray := fun a b => if h : bs a = bs b then isTrue (bs_inj h) else isFalse (fun e => h (by rw [e]))
structure Val where
 nm : ByteArray
 ty : Int
 n : Int
structure Chg where
 t : Int
 u : Int
structure Res where
 nm : ByteArray
 un : Int
 sh : List Chg
 cy : Int
 fs : ByteArray
 up : Dt
 dn : Dt
structure Sto where
 nm : ByteArray
 rm : Int
 po : Int
structure Blt where
 nm : ByteArray
 ln : Int
 sp : Int
structure Fld where
 nm : ByteArray
 ty : Int
structure Rou where
 nm : ByteArray
 ps : List Fld
 ls : List Fld
 bo : List St
structure Sta where
 ro : ByteArray
 ar : List Int
 a : Int
 e : Int
 u : Int
structure Trm where
 co : Int
 wh : ByteArray
 nm : ByteArray
structure Lw where
 nm : ByteArray
 ts : List Trm
 tt : Int
structure Lnk where
 fr : ByteArray
 tt : ByteArray
 de : Int
structure Ste where
 nm : ByteArray
 va : List Val
 rs : List Res
 st : List Sto
 be : List Blt
 qu : List ByteArray
 sm : List ByteArray
 ta : List ByteArray
 le : List ByteArray
 co : List ByteArray
 ro : List Rou
 ss : List Sta
 la : List Lw
structure Mdl where
 nm : ByteArray
 pa : List Val
 si : List Ste
 li : List Lnk
theorem fst_cons (x s : ByteArray) (t : List ByteArray) : fst (x :: t) s = if bs x = bs s then 0 else if fst t s = -1 then -1 else fst t s + 1 := rfl
theorem fst_in {s : ByteArray} : ∀ {l : List ByteArray}, 0 ≤ fst l s ↔ s ∈ l
 | [] => by
  have : fst [] s = -1 := rfl
  rw [this]
  constructor
  · intro h; omega
  · intro h; cases h
 | x :: t => by
  have ih := fst_in (s := s) (l := t)
  have h0 := fst_ge s t
  rw [fst_cons, List.mem_cons]
  by_cases h : bs x = bs s
  · rw [if_pos h]; exact ⟨fun _ => .inl (bs_inj h).symm, fun _ => Int.le_refl _⟩
  · rw [if_neg h]
    have hne : ¬ s = x := fun e => h (by rw [e])
    constructor
    · intro g
      split at g
      · omega
      · exact .inr (ih.1 (by omega))
    · rintro (g | g)
      · exact absurd g hne
      · have := ih.2 g
        split <;> omega
instance memDec (x : ByteArray) (l : List ByteArray) : Decidable (x ∈ l) := decidable_of_iff _ fst_in
def decE (acc : List ByteArray) (x : ByteArray) : Int := orE (chk (bs x)) (if x ∈ acc then 4 else 0)
def stepN (acc : List ByteArray) (p : ByteArray × Int) : Int × List ByteArray := (orE (decE acc p.1) p.2, if decE acc p.1 = 0 then acc ++ [p.1] else acc)
def goE {α σ : Type} (f : σ → α → Int × σ) : List α → σ → Int × σ
 | [], s => (0, s)
 | x :: t, s => if (f s x).1 = 0 then goE f t (f s x).2 else f s x
def eachE {α σ : Type} (f : σ → α → Int × σ) (most : Nat) (l : List α) (s : σ) : Int × σ := if most < l.length then (6, s) else goE f l s
theorem goE_app {α σ : Type} {f : σ → α → Int × σ} : ∀ {a b : List α} {s : σ}, goE f (a ++ b) s = if (goE f a s).1 = 0 then goE f b (goE f a s).2 else goE f a s
 | [], b, s => by simp [goE]
 | x :: t, b, s => by
  rw [List.cons_append, goE, goE, goE_app]
  by_cases h : (f s x).1 = 0
  · rw [if_pos h, if_pos h]
  · rw [if_neg h, if_neg h, if_neg h]
theorem goE_one {α σ : Type} {f : σ → α → Int × σ} {x : α} {s : σ} : goE f [x] s = f s x := by
 rw [goE]
 by_cases h : (f s x).1 = 0
 · rw [if_pos h, goE]; exact Prod.ext h.symm rfl
 · rw [if_neg h]
theorem goE_take {α σ : Type} {f : σ → α → Int × σ} {l : List α} {k : Nat} {x : α} {s r : σ} (hx : l[k]? = some x) (h : goE f (l.take k) s = (0, r)) : goE f (l.take (k + 1)) s = f r x := by
 rw [Go.Proofs.YtaaffmbnhjaebaaGreat.Ex.take_one hx, goE_app, h, goE_one]; rfl
theorem goE_stop {α σ : Type} {f : σ → α → Int × σ} {l : List α} {k : Nat} {x : α} {s r : σ} (hx : l[k]? = some x) (h : goE f (l.take k) s = (0, r)) (h1 : ¬ (f r x).1 = 0) : goE f l s = f r x := by
 have h2 := goE_app (f := f) (a := l.take (k + 1)) (b := l.drop (k + 1)) (s := s)
 rw [List.take_append_drop, goE_take hx h, if_neg h1] at h2
 exact h2
theorem goE_next {α σ : Type} {f : σ → α → Int × σ} {l : List α} {k : Nat} {x : α} {s r : σ} (hx : l[k]? = some x) (h : goE f (l.take k) s = (0, r)) (h1 : (f r x).1 = 0) : goE f (l.take (k + 1)) s = (0, (f r x).2) := by
 rw [goE_take hx h]; exact Prod.ext h1 rfl
theorem goE_map {α β σ : Type} {f : σ → β → Int × σ} {g : α → β} : ∀ {l : List α} {s : σ}, goE f (l.map g) s = goE (fun s x => f s (g x)) l s
 | [], s => rfl
 | x :: t, s => by rw [List.map_cons, goE, goE, goE_map]
theorem eachE_map {α β σ : Type} {f : σ → β → Int × σ} {g : α → β} {most : Nat} {l : List α} {s : σ} : eachE f most (l.map g) s = eachE (fun s x => f s (g x)) most l s := by
 unfold eachE; rw [List.length_map, goE_map]
def frE {α : Type} (f : α → Int) : List α → Int
 | [] => 0
 | x :: t => orE (f x) (frE f t)
def lstE {α : Type} (f : α → Int) (most : Nat) (l : List α) : Int := if most < l.length then 6 else frE f l
theorem goE_pure {α : Type} {f : α → Int} : ∀ {l : List α}, goE (fun (_ : Unit) x => (f x, ())) l () = (frE f l, ())
 | [] => rfl
 | x :: t => by
  rw [goE, frE, goE_pure]
  by_cases h : f x = 0
  · rw [if_pos h, h, orE_yes]
  · rw [if_neg h, orE_no h]
theorem eachE_pure {α : Type} {f : α → Int} {most : Nat} {l : List α} : eachE (fun (_ : Unit) x => (f x, ())) most l () = (lstE f most l, ()) := by
 unfold eachE lstE
 by_cases h : most < l.length
 · rw [if_pos h, if_pos h]
 · rw [if_neg h, if_neg h, goE_pure]
def btw (lo n hi : Int) : Bool := decide (lo ≤ n) && decide (n ≤ hi)
def typ (t : Int) : Bool := decide (t = 1) || decide (t = 2) || decide (t = 3)
def fits (t n : Int) : Bool := if t = 1 then btw (-1000000000000) n 1000000000000 else if t = 2 then btw 0 n 1 else if t = 3 then btw 0 n 1000000000 else false
def isT (n : Int) : Bool := btw 0 n 1000000000
def isU (n : Int) : Bool := btw 0 n 1000
def valT (v : Val) : Int := if typ v.ty then (if fits v.ty v.n then 0 else 2) else 1
def fldT (f : Fld) : Int := if typ f.ty then 0 else 1
def chgE (cy : Int) (prev : Option Chg) (c : Chg) : Int :=
 if btw 0 c.t (cy - 1) && isU c.u then (match prev with | none => 0 | some d => if c.t ≤ d.t then 12 else 0) else 2
def chgL (cy : Int) : Option Chg → List Chg → Int
 | _, [] => 0
 | p, c :: t => orE (chgE cy p c) (chgL cy (some c) t)
def schE (l : List Chg) (cy : Int) : Int :=
 if l.length = 0 then (if cy = 0 then 0 else 1) else if 20 < l.length then 6 else if btw 1 cy 1000000000 then chgL cy none l else 2
def fltE (r : Res) (sm : List ByteArray) : Int :=
 if bs r.fs = [] then (if sameDt r.up zD && sameDt r.dn zD then 0 else 1) else if fst sm r.fs < 0 then 5 else orE (dtE r.up) (dtE r.dn)
def resT (sm : List ByteArray) (r : Res) : Int := if isU r.un then orE (schE r.sh r.cy) (fltE r sm) else 2
def stoT (d : Sto) : Int := if btw 1 d.rm 1000 then (if btw 1 d.po 3 then 0 else 1) else 2
def bltT (b : Blt) : Int := if btw 1 b.ln 1000 && btw 1 b.sp 1000 then 0 else 2
def fldP (f : Fld) : ByteArray × Int := (f.nm, fldT f)
def rouT (r : Rou) : Int := if 6 < r.ps.length then 6 else orE (eachE (fun a f => stepN a (fldP f)) 16 (r.ps ++ r.ls) []).1 (chkL r.bo)
def valP (v : Val) : ByteArray × Int := (v.nm, valT v)
def resP (sm : List ByteArray) (r : Res) : ByteArray × Int := (r.nm, resT sm r)
def stoP (d : Sto) : ByteArray × Int := (d.nm, stoT d)
def bltP (b : Blt) : ByteArray × Int := (b.nm, bltT b)
def txtP (x : ByteArray) : ByteArray × Int := (x, 0)
def rouP (r : Rou) : ByteArray × Int := (r.nm, rouT r)
def kinds (s : Ste) : List (Nat × List (ByteArray × Int)) := [(32, s.va.map valP), (32, s.rs.map (resP s.sm)), (32, s.st.map stoP), (32, s.be.map bltP), (32, s.qu.map txtP), (32, s.sm.map txtP), (32, s.ta.map txtP), (32, s.le.map txtP), (32, s.co.map txtP), (16, s.ro.map rouP)]
def thr : List (Nat × List (ByteArray × Int)) → List ByteArray → List Int
 | [], _ => []
 | k :: t, acc => (eachE stepN k.1 k.2 acc).1 :: thr t (eachE stepN k.1 k.2 acc).2
def idE (x : Int) : Int := x
def fitL : List Fld → List Int → Bool
 | p :: t, n :: u => fits p.ty n && fitL t u
 | _, _ => true
def rouI (ro : List Rou) (x : ByteArray) : Int := fst (ro.map (·.nm)) x
def staE (ro : List Rou) (d : Sta) : Int :=
 match (if rouI ro d.ro < 0 then none else ro[(rouI ro d.ro).toNat]?) with
 | none => 5
 | some r => if d.ar.length = r.ps.length then (if fitL r.ps d.ar then (if isT d.a && isT d.e && isT d.u && !(decide (d.e = 0) && !decide (d.u = 0)) then 0 else 2) else 2) else 8
def names (s : Ste) : List (List ByteArray) := [s.va.map (·.nm), s.rs.map (·.nm), s.st.map (·.nm), s.be.map (·.nm), s.qu, s.sm, s.ta, s.le, s.co, s.ro.map (·.nm)]
abbrev tVar : ByteArray := ⟨#[118, 97, 114]⟩
abbrev tRes : ByteArray := ⟨#[114, 101, 115, 111, 117, 114, 99, 101]⟩
abbrev tSto : ByteArray := ⟨#[115, 116, 111, 114, 101]⟩
abbrev tBlt : ByteArray := ⟨#[98, 101, 108, 116]⟩
abbrev tQue : ByteArray := ⟨#[113, 117, 101, 117, 101]⟩
abbrev tStr : ByteArray := ⟨#[115, 116, 114, 101, 97, 109]⟩
abbrev tTal : ByteArray := ⟨#[116, 97, 108, 108, 121]⟩
abbrev tLev : ByteArray := ⟨#[108, 101, 118, 101, 108]⟩
abbrev tCnt : ByteArray := ⟨#[99, 111, 117, 110, 116]⟩
abbrev tRou : ByteArray := ⟨#[114, 111, 117, 116, 105, 110, 101]⟩
def words : List ByteArray := [tVar, tRes, tSto, tBlt, tQue, tStr, tTal, tLev, tCnt, tRou]
def plc : List ByteArray → List (List ByteArray) → ByteArray → ByteArray × Int
 | w :: t, l :: u, x => if 0 ≤ fst l x then (w, fst l x) else plc t u x
 | _, _, _ => (nE, -1)
def kindV (s : Ste) (x : ByteArray) : ByteArray := (plc words (names s) x).1
def idxV (s : Ste) (x : ByteArray) : Int := (plc words (names s) x).2
abbrev tCrd : ByteArray := ⟨#[99, 114, 101, 97, 116, 101, 100]⟩
abbrev tEnd : ByteArray := ⟨#[101, 110, 100, 101, 100]⟩
abbrev tIns : ByteArray := ⟨#[105, 110, 115, 105, 100, 101]⟩
abbrev tStd : ByteArray := ⟨#[115, 116, 111, 114, 101, 100]⟩
abbrev tEnt : ByteArray := ⟨#[101, 110, 116, 101, 114, 101, 100]⟩
abbrev tLft : ByteArray := ⟨#[108, 101, 102, 116]⟩
abbrev tCtd : ByteArray := ⟨#[99, 111, 117, 110, 116, 101, 100]⟩
def cntK (w : ByteArray) : ByteArray := if w = tCrd ∨ w = tEnd ∨ w = tIns then tRou else if w = tStd ∨ w = tEnt ∨ w = tLft then tSto else if w = tCtd then tCnt else nE
def trmE (s : Ste) (t : Trm) : Int := if cntK t.wh = nE then 1 else if kindV s t.nm = cntK t.wh then (if t.co = 0 then 2 else if btw (-1000) t.co 1000 then 0 else 2) else 5
def lawT (s : Ste) (l : Lw) : Int := if l.ts.length = 0 then 7 else orE (lstE (trmE s) 8 l.ts) (if btw (-1000000000000) l.tt 1000000000000 then 0 else 2)
def lawP (s : Ste) (l : Lw) : ByteArray × Int := (l.nm, lawT s l)
def lawsE (s : Ste) : Int := (eachE stepN 32 (s.la.map (lawP s)) []).1
def siteT (s : Ste) : Int := orE (frE idE (thr (kinds s) [])) (orE (lstE (staE s.ro) 32 s.ss) (lawsE s))
def siteP (s : Ste) : ByteArray × Int := (s.nm, siteT s)
def siteI (si : List Ste) (x : ByteArray) : Int := fst (si.map (·.nm)) x
def lnkT (si : List Ste) (l : Lnk) : Int := if siteI si l.fr < 0 ∨ siteI si l.tt < 0 then 5 else if l.fr = l.tt then 1 else if btw 1 l.de 1000000000 then 0 else 2
def lnkK (l : Lnk) : List UInt8 × List UInt8 := (bs l.fr, bs l.tt)
def stepK (si : List Ste) (acc : List (List UInt8 × List UInt8)) (l : Lnk) : Int × List (List UInt8 × List UInt8) :=
 if lnkT si l = 0 then (if lnkK l ∈ acc then (4, acc) else (0, acc ++ [lnkK l])) else (lnkT si l, acc)
def lnksE (m : Mdl) : Int := (eachE (stepK m.si) 32 m.li []).1
def sitesE (m : Mdl) : Int := if m.si.length = 0 then 7 else (eachE stepN 16 (m.si.map siteP) []).1
def parE (m : Mdl) : Int := (eachE stepN 32 (m.pa.map valP) []).1
def mdlE (m : Mdl) : Int := orE (chk (bs m.nm)) (orE (parE m) (orE (sitesE m) (lnksE m)))
def lnkV : List Lnk → ByteArray → ByteArray → Int × Bool
 | [], _, _ => (0, false)
 | l :: t, a, b => if l.fr = a ∧ l.tt = b then (l.de, true) else lnkV t a b
theorem lnkV_app : ∀ {l m : List Lnk} {a b : ByteArray}, (lnkV l a b).2 = false → lnkV (l ++ m) a b = lnkV m a b
 | [], m, a, b, _ => rfl
 | x :: t, m, a, b, h => by
  rw [List.cons_append, lnkV]
  rw [lnkV] at h
  by_cases g : x.fr = a ∧ x.tt = b
  · rw [if_pos g] at h; cases h
  · rw [if_neg g] at h ⊢; exact lnkV_app h
theorem lnkV_none : ∀ {l : List Lnk} {a b : ByteArray}, (lnkV l a b).2 = false → lnkV l a b = (0, false)
 | [], a, b, _ => rfl
 | x :: t, a, b, h => by
  rw [lnkV] at h ⊢
  by_cases g : x.fr = a ∧ x.tt = b
  · rw [if_pos g] at h; cases h
  · rw [if_neg g] at h ⊢; exact lnkV_none h
theorem lnkV_take {l : List Lnk} {k : Nat} {x : Lnk} {a b : ByteArray} (hx : l[k]? = some x) (h : (lnkV (l.take k) a b).2 = false) (g : ¬ (x.fr = a ∧ x.tt = b)) : (lnkV (l.take (k + 1)) a b).2 = false := by
 rw [Go.Proofs.YtaaffmbnhjaebaaGreat.Ex.take_one hx, lnkV_app h, lnkV, if_neg g]; rfl
theorem lnkV_hit {l : List Lnk} {k : Nat} {x : Lnk} {a b : ByteArray} (hx : l[k]? = some x) (h : (lnkV (l.take k) a b).2 = false) (g : x.fr = a ∧ x.tt = b) : lnkV l a b = (x.de, true) := by
 have h1 := List.take_append_drop k l
 have h2 : l.drop k = x :: l.drop (k + 1) := by
  obtain ⟨hk, e⟩ := List.getElem?_eq_some_iff.1 hx
  rw [← e]; exact List.drop_eq_getElem_cons hk
 rw [← h1, lnkV_app h, h2, lnkV, if_pos g]
theorem Chg.ext' {x y : Chg} : x = y ↔ x.t = y.t ∧ x.u = y.u := by cases x; cases y; simp
theorem Val.ext' {x y : Val} : x = y ↔ x.nm = y.nm ∧ x.ty = y.ty ∧ x.n = y.n := by cases x; cases y; simp
theorem Sto.ext' {x y : Sto} : x = y ↔ x.nm = y.nm ∧ x.rm = y.rm ∧ x.po = y.po := by cases x; cases y; simp
theorem Blt.ext' {x y : Blt} : x = y ↔ x.nm = y.nm ∧ x.ln = y.ln ∧ x.sp = y.sp := by cases x; cases y; simp
theorem Fld.ext' {x y : Fld} : x = y ↔ x.nm = y.nm ∧ x.ty = y.ty := by cases x; cases y; simp
theorem Trm.ext' {x y : Trm} : x = y ↔ x.co = y.co ∧ x.wh = y.wh ∧ x.nm = y.nm := by cases x; cases y; simp
theorem Lnk.ext' {x y : Lnk} : x = y ↔ x.fr = y.fr ∧ x.tt = y.tt ∧ x.de = y.de := by cases x; cases y; simp
def eqB {α : Type} (f : α → α → Bool) : List α → List α → Bool
 | [], [] => true
 | x :: t, y :: u => f x y && eqB f t u
 | [], _ :: _ => false
 | _ :: _, [] => false
theorem eqB_iff {α : Type} {f : α → α → Bool} (hf : ∀ x y, f x y = true ↔ x = y) : ∀ {l m : List α}, eqB f l m = true ↔ l = m
 | [], [] => by simp [eqB]
 | x :: t, y :: u => by rw [eqB, Bool.and_eq_true, hf, eqB_iff hf, List.cons.injEq]
 | [], _ :: _ => by simp [eqB]
 | _ :: _, [] => by simp [eqB]
theorem eqB_len {α : Type} {f : α → α → Bool} : ∀ {l m : List α}, ¬ l.length = m.length → eqB f l m = false
 | [], [], h => absurd rfl h
 | x :: t, y :: u, h => by rw [eqB, eqB_len (by simpa using h), Bool.and_false]
 | [], _ :: _, _ => rfl
 | _ :: _, [], _ => rfl
theorem eqB_app {α : Type} {f : α → α → Bool} : ∀ {a b c d : List α}, a.length = b.length → eqB f (a ++ c) (b ++ d) = (eqB f a b && eqB f c d)
 | [], [], c, d, _ => rfl
 | x :: t, y :: u, c, d, h => by rw [List.cons_append, List.cons_append, eqB, eqB, eqB_app (by simpa using h), Bool.and_assoc]
 | [], _ :: _, _, _, h => by simp at h
 | _ :: _, [], _, _, h => by simp at h
theorem eqB_take {α : Type} {f : α → α → Bool} {l m : List α} {k : Nat} {x y : α} (hx : l[k]? = some x) (hy : m[k]? = some y) (h : eqB f (l.take k) (m.take k) = true) (g : f x y = true) : eqB f (l.take (k + 1)) (m.take (k + 1)) = true := by
 obtain ⟨hk, -⟩ := List.getElem?_eq_some_iff.1 hx
 obtain ⟨hj, -⟩ := List.getElem?_eq_some_iff.1 hy
 rw [Go.Proofs.YtaaffmbnhjaebaaGreat.Ex.take_one hx, Go.Proofs.YtaaffmbnhjaebaaGreat.Ex.take_one hy, eqB_app (by rw [List.length_take, List.length_take]; omega), h, eqB, g]; rfl
theorem eqB_stop {α : Type} {f : α → α → Bool} {l m : List α} {k : Nat} {x y : α} (hx : l[k]? = some x) (hy : m[k]? = some y) (g : f x y = false) : eqB f l m = false := by
 obtain ⟨hk, e1⟩ := List.getElem?_eq_some_iff.1 hx
 obtain ⟨hj, e2⟩ := List.getElem?_eq_some_iff.1 hy
 have a := List.take_append_drop k l
 have b := List.take_append_drop k m
 rw [List.drop_eq_getElem_cons hk, e1] at a
 rw [List.drop_eq_getElem_cons hj, e2] at b
 rw [← a, ← b, eqB_app (by rw [List.length_take, List.length_take]; omega), eqB, g]
 simp
def txB (x y : ByteArray) : Bool := decide (bs x = bs y)
theorem txB_iff {x y : ByteArray} : txB x y = true ↔ x = y := by
 unfold txB
 rw [decide_eq_true_eq]
 exact ⟨bs_inj, fun h => by rw [h]⟩
def inB (x y : Int) : Bool := decide (x = y)
theorem inB_iff {x y : Int} : inB x y = true ↔ x = y := by unfold inB; exact decide_eq_true_iff
def chB (x y : Chg) : Bool := inB x.t y.t && inB x.u y.u
theorem chB_iff (x y : Chg) : chB x y = true ↔ x = y := by unfold chB; rw [Bool.and_eq_true, inB_iff, inB_iff, Chg.ext']
def vaB (x y : Val) : Bool := txB x.nm y.nm && (inB x.ty y.ty && inB x.n y.n)
theorem vaB_iff (x y : Val) : vaB x y = true ↔ x = y := by unfold vaB; rw [Bool.and_eq_true, Bool.and_eq_true, txB_iff, inB_iff, inB_iff, Val.ext']
def soB (x y : Sto) : Bool := txB x.nm y.nm && (inB x.rm y.rm && inB x.po y.po)
theorem soB_iff (x y : Sto) : soB x y = true ↔ x = y := by unfold soB; rw [Bool.and_eq_true, Bool.and_eq_true, txB_iff, inB_iff, inB_iff, Sto.ext']
def blB (x y : Blt) : Bool := txB x.nm y.nm && (inB x.ln y.ln && inB x.sp y.sp)
theorem blB_iff (x y : Blt) : blB x y = true ↔ x = y := by unfold blB; rw [Bool.and_eq_true, Bool.and_eq_true, txB_iff, inB_iff, inB_iff, Blt.ext']
def fdB (x y : Fld) : Bool := txB x.nm y.nm && inB x.ty y.ty
theorem fdB_iff (x y : Fld) : fdB x y = true ↔ x = y := by unfold fdB; rw [Bool.and_eq_true, txB_iff, inB_iff, Fld.ext']
def tmB (x y : Trm) : Bool := inB x.co y.co && (txB x.wh y.wh && txB x.nm y.nm)
theorem tmB_iff (x y : Trm) : tmB x y = true ↔ x = y := by unfold tmB; rw [Bool.and_eq_true, Bool.and_eq_true, inB_iff, txB_iff, txB_iff, Trm.ext']
def lkB (x y : Lnk) : Bool := txB x.fr y.fr && (txB x.tt y.tt && inB x.de y.de)
theorem lkB_iff (x y : Lnk) : lkB x y = true ↔ x = y := by unfold lkB; rw [Bool.and_eq_true, Bool.and_eq_true, txB_iff, txB_iff, inB_iff, Lnk.ext']
def fuB (x y : Res) : Bool := txB x.fs y.fs && sameDt x.up y.up && sameDt x.dn y.dn
def reB (x y : Res) : Bool := txB x.nm y.nm && inB x.un y.un && eqB chB x.sh y.sh && inB x.cy y.cy && fuB x y
theorem reB_iff (x y : Res) : reB x y = true ↔ x = y := by
 unfold reB fuB
 simp only [Bool.and_eq_true, txB_iff, inB_iff, eqB_iff chB_iff, sameDt_iff]
 cases x; cases y
 simp only [Res.mk.injEq]
 constructor
 · rintro ⟨⟨⟨⟨a, b⟩, c⟩, d⟩, ⟨e, f⟩, g⟩; exact ⟨a, b, c, d, e, f, g⟩
 · rintro ⟨a, b, c, d, e, f, g⟩; exact ⟨⟨⟨⟨a, b⟩, c⟩, d⟩, ⟨e, f⟩, g⟩
def roB (x y : Rou) : Bool := txB x.nm y.nm && eqB fdB x.ps y.ps && eqB fdB x.ls y.ls && sameSL x.bo y.bo
theorem roB_iff (x y : Rou) : roB x y = true ↔ x = y := by
 unfold roB
 simp only [Bool.and_eq_true, txB_iff, eqB_iff fdB_iff, sameSL_iff]
 cases x; cases y
 simp only [Rou.mk.injEq]
 constructor
 · rintro ⟨⟨⟨a, b⟩, c⟩, d⟩; exact ⟨a, b, c, d⟩
 · rintro ⟨a, b, c, d⟩; exact ⟨⟨⟨a, b⟩, c⟩, d⟩
def saB (x y : Sta) : Bool := txB x.ro y.ro && eqB inB x.ar y.ar && inB x.a y.a && inB x.e y.e && inB x.u y.u
theorem saB_iff (x y : Sta) : saB x y = true ↔ x = y := by
 unfold saB
 simp only [Bool.and_eq_true, txB_iff, inB_iff, eqB_iff (fun x y => inB_iff (x := x) (y := y))]
 cases x; cases y
 simp only [Sta.mk.injEq]
 constructor
 · rintro ⟨⟨⟨⟨a, b⟩, c⟩, d⟩, e⟩; exact ⟨a, b, c, d, e⟩
 · rintro ⟨a, b, c, d, e⟩; exact ⟨⟨⟨⟨a, b⟩, c⟩, d⟩, e⟩
def lwB (x y : Lw) : Bool := txB x.nm y.nm && eqB tmB x.ts y.ts && inB x.tt y.tt
theorem lwB_iff (x y : Lw) : lwB x y = true ↔ x = y := by
 unfold lwB
 simp only [Bool.and_eq_true, txB_iff, inB_iff, eqB_iff tmB_iff]
 cases x; cases y
 simp only [Lw.mk.injEq]
 constructor
 · rintro ⟨⟨a, b⟩, c⟩; exact ⟨a, b, c⟩
 · rintro ⟨a, b, c⟩; exact ⟨⟨a, b⟩, c⟩
def siB (x y : Ste) : Bool := txB x.nm y.nm && eqB vaB x.va y.va && eqB reB x.rs y.rs && eqB soB x.st y.st && eqB blB x.be y.be && eqB txB x.qu y.qu && eqB txB x.sm y.sm && eqB txB x.ta y.ta && eqB txB x.le y.le && eqB txB x.co y.co && eqB roB x.ro y.ro && eqB saB x.ss y.ss && eqB lwB x.la y.la
theorem siB_iff (x y : Ste) : siB x y = true ↔ x = y := by
 have ht : ∀ l m : List ByteArray, eqB txB l m = true ↔ l = m := fun l m => eqB_iff (fun x y => txB_iff)
 unfold siB
 simp only [Bool.and_eq_true, txB_iff, eqB_iff vaB_iff, eqB_iff reB_iff, eqB_iff soB_iff, eqB_iff blB_iff, ht, eqB_iff roB_iff, eqB_iff saB_iff, eqB_iff lwB_iff]
 cases x; cases y
 simp only [Ste.mk.injEq]
 constructor
 · rintro ⟨⟨⟨⟨⟨⟨⟨⟨⟨⟨⟨⟨a, b⟩, c⟩, d⟩, e⟩, f⟩, g⟩, h⟩, i⟩, j⟩, k⟩, l⟩, m⟩; exact ⟨a, b, c, d, e, f, g, h, i, j, k, l, m⟩
 · rintro ⟨a, b, c, d, e, f, g, h, i, j, k, l, m⟩; exact ⟨⟨⟨⟨⟨⟨⟨⟨⟨⟨⟨⟨a, b⟩, c⟩, d⟩, e⟩, f⟩, g⟩, h⟩, i⟩, j⟩, k⟩, l⟩, m⟩
def mdB (x y : Mdl) : Bool := txB x.nm y.nm && eqB vaB x.pa y.pa && eqB siB x.si y.si && eqB lkB x.li y.li
theorem mdB_iff (x y : Mdl) : mdB x y = true ↔ x = y := by
 unfold mdB
 simp only [Bool.and_eq_true, txB_iff, eqB_iff vaB_iff, eqB_iff siB_iff, eqB_iff lkB_iff]
 cases x; cases y
 simp only [Mdl.mk.injEq]
 constructor
 · rintro ⟨⟨⟨a, b⟩, c⟩, d⟩; exact ⟨a, b, c, d⟩
 · rintro ⟨a, b, c, d⟩; exact ⟨⟨⟨a, b⟩, c⟩, d⟩
theorem mdB_self (x : Mdl) : mdB x x = true := (mdB_iff x x).2 rfl
end Go.Proofs.YtaaffmbnhjaebaaGreat.Md
