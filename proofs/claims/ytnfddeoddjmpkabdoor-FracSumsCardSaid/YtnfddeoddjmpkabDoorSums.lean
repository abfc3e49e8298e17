/-
  The law of sums: Sum agrees with the reference, and a sum with one more element is what Add makes of the sum and the element.
-/
import Derived.Test.YtnfddeoddjmpkabDoorSumsB
import Derived.Test.YtnfddeoddjmpkabDoorAwake
import Derived.Test.YtnfddeoddjmpkabDoorText
namespace Go.Proofs.YtnfddeoddjmpkabDoor
open Go.RowKit
set_option maxHeartbeats 2000000
theorem sum_src {w : World} {p : Option Addr} {len cap : Nat} {N D : Nat → Int} (hS : Src w p len N D) (hc : p = none → cap = 0) (hl : len ≤ 9223372036854775807) : Calls Tryd.prog 6 #[.slice p len cap] w (Gives (.tuple #[.agg #[.int .i64 (oN (sumR N D len 0 0 1)), .int .i64 (oD (sumR N D len 0 0 1))], .bool (oB (sumR N D len 0 0 1))]) w) := by
  rcases hS with ⟨rfl, rfl⟩ | ⟨b, o, rfl, he⟩
  · rw [hc rfl]; exact sum_none w
  · exact sum_some b o len cap N D hl w he
theorem rsum_src {w : World} {p : Option Addr} {len cap : Nat} {N D : Nat → Int} (hS : Src w p len N D) (hc : p = none → cap = 0) (hl : len ≤ 9223372036854775807) : Calls Tryd.prog 7 #[.slice p len cap] w (Gives (.tuple #[.agg #[.int .i64 (oN (sumR N D len 0 0 1)), .int .i64 (oD (sumR N D len 0 0 1))], .bool (oB (sumR N D len 0 0 1))]) w) := by
  rcases hS with ⟨rfl, rfl⟩ | ⟨b, o, rfl, he⟩
  · rw [hc rfl]; exact rsum_none w
  · exact rsum_some b o len cap N D hl w he
/-- The append as a step, in a world that owns the row it appends to. -/
theorem wp_app {lo : Nat} {w : World} {o : Oper} {a : Act} {K : Act → World → Prop} {Q : Exit → Act → World → Prop} (s x : Operand)
    (ho : o.op = .call { callee := .builtin .append, args := #[s, x], argTypes := #[22, 22] }) (ht : o.type = 22) {v : Value} {n m c : Nat} {p : Option Addr} {N D M E : Nat → Int} (hs : a.eval s = v) (hx : a.eval x = .slice p m c)
    (hown : w.ownsRow lo 24 2 v n (fl N D n)) (hF : Src w p m M E) (hb : n + m ≤ 20000) (hlo : lo ≤ w.heap.size)
    (h : ∀ v' w', w'.ownsRow lo 24 2 v' (n + m) (fl (glueI N n M) (glueI D n E) (n + m)) → w.grownBy w' v.ownBlock → (v'.ownBlock = v.ownBlock ∨ v'.ownBlock = some w.heap.size) → (∀ W0, W0.heap.size = lo → Below lo W0 w → Below lo W0 w') → K (a.put o.dst v') w') : o.wp Tryd.prog a w K Q := by
  obtain ⟨v', w', hr, h1, h2, h3⟩ := append_fr (c := c) hown hF hb hlo
  exact Lib.wp_append_run w s x _ _ ho v _ hs hx v' w' (by rw [ht]; exact hr) (h v' w' h1 h2 h3 fun W0 _ hB => hB.grown h2 hlo fun k hk => (hown.lt k hk).1)
theorem own_on {lo : Nat} {w w2 : World} {v : Value} {n : Nat} {xs : List Value} (h : w.ownsRow lo 24 2 v n xs) (hb : Below w.heap.size w w2) : w2.ownsRow lo 24 2 v n xs :=
  h.kept (row := none) ⟨hb.os, hb.tape, hb.output, hb.size, fun k hk _ => hb.block k hk⟩ (by cases v.ownBlock <;> simp)
theorem own_lit {lo k : Nat} {w : World} {N D : Nat → Int} (hk : k = w.heap.size) (hlo : lo ≤ w.heap.size) : (w.alloc (.cells #[] 24)).ownsRow lo 24 2 (.slice (some ⟨k, 0, none⟩) 0 0) 0 (fl N D 0) := by
  subst hk
  exact World.ownsRow_lit (w := w) (base := lo) (e := 24) (size := 2) #[] 0 hlo (by unfold maxLen; omega) rfl
theorem two_cells {w : World} {b : Nat} {x y : Value} (h : two w b x y) : w.cell? ⟨b, 0, none⟩ = some x ∧ w.cell? ⟨b, 1, none⟩ = some y := ⟨h.1, h.2.1⟩
theorem glue0 (N M : Nat → Int) : glueI N 0 M = M := by funext i; simp [glueI]
theorem wp_app1 {lo : Nat} {w : World} {o : Oper} {a : Act} {K : Act → World → Prop} {Q : Exit → Act → World → Prop} (s x : Operand)
    (ho : o.op = .call { callee := .builtin .append, args := #[s, x], argTypes := #[22, 22] }) (ht : o.type = 22) {v : Value} {m c : Nat} {p : Option Addr} {M E : Nat → Int} (hs : a.eval s = v) (hx : a.eval x = .slice p m c)
    (hown : w.ownsRow lo 24 2 v 0 (fl M E 0)) (hF : Src w p m M E) (hb : m ≤ 20000) (hlo : lo ≤ w.heap.size)
    (h : ∀ v' w', w'.ownsRow lo 24 2 v' m (fl M E m) → w.grownBy w' v.ownBlock → (v'.ownBlock = v.ownBlock ∨ v'.ownBlock = some w.heap.size) → (∀ W0, W0.heap.size = lo → Below lo W0 w → Below lo W0 w') → K (a.put o.dst v') w') : o.wp Tryd.prog a w K Q :=
  wp_app s x ho ht hs hx hown hF (by omega) hlo fun v' w' h1 h2 h3 h4 => h v' w' (by rw [glue0, glue0, Nat.zero_add] at h1; exact h1) h2 h3 h4
theorem own_alloc {lo : Nat} {w : World} {v : Value} {n : Nat} {xs : List Value} {o : Obj} (h : w.ownsRow lo 24 2 v n xs) : (w.alloc o).ownsRow lo 24 2 v n xs := own_on h ((Below.refl _ _).alloc (Nat.le_refl _) o)
theorem own_drew {lo : Nat} {w : World} {v : Value} {n : Nat} {xs : List Value} (h : w.ownsRow lo 24 2 v n xs) : w.drew.ownsRow lo 24 2 v n xs := h
theorem two_new {w : World} {k : Nat} {x y : Value} {t : TypeId} (hk : k = w.heap.size) : two (w.alloc (.cells #[x, y] t)) k x y := by subst hk; exact two.new
theorem app_keep {W w4 : World} {v v2 : Value} {L : Nat} {x y : Value} (h : two W L x y) (G : W.grownBy w4 v.ownBlock) (D : v2.ownBlock = v.ownBlock ∨ v2.ownBlock = some W.heap.size) (hne : v.ownBlock ≠ some L) : two w4 L x y ∧ v2.ownBlock ≠ some L := by
  refine ⟨h.grown G hne, ?_⟩
  have := h.2.2.2.2
  rcases D with D | D
  · rw [D]; exact hne
  · rw [D]; intro e; injection e with e; omega
theorem own_ne {lo : Nat} {w : World} {v : Value} {n L : Nat} {xs : List Value} (h : w.ownsRow lo 24 2 v n xs) (hL : w.heap.size ≤ L) : v.ownBlock ≠ some L := by
  intro e
  have := (h.lt L e).2
  omega
theorem src_two {w : World} {b : Nat} {a c : Int} (h : two w b (.int .i64 a) (.int .i64 c)) (n0 : -9223372036854775808 ≤ a) (n1 : a ≤ 9223372036854775807) (d0 : -9223372036854775808 ≤ c) (d1 : c ≤ 9223372036854775807) : Src w (some ⟨b, 0, none⟩) 1 (fun _ => a) (fun _ => c) :=
  .inr ⟨b, 0, rfl, h.2.2.2.2, fun i hi => by
    obtain rfl : i = 0 := (by omega)
    exact ⟨h.1, h.2.1, n0, n1, d0, d1⟩⟩
theorem out_range (o : Option (Int × Int)) (h : ∀ s, o = some s → -4611686018427387904 ≤ s.1 ∧ s.1 ≤ 4611686018427387904 ∧ 0 ≤ s.2 ∧ s.2 ≤ 1000000000000000) : -9223372036854775808 ≤ oN o ∧ oN o ≤ 9223372036854775807 ∧ -9223372036854775808 ≤ oD o ∧ oD o ≤ 9223372036854775807 := by
  rcases o with - | ⟨x, y⟩
  · simp [oN, oD]
  · obtain ⟨h1, h2, h3, h4⟩ := h _ rfl
    simp only [oN, oD]
    omega
theorem sumR_range (N D : Nat → Int) : ∀ (m k : Nat) (n d : Int), -4611686018427387904 ≤ n ∧ n ≤ 4611686018427387904 ∧ 0 ≤ d ∧ d ≤ 1000000000000000 → ∀ s, sumR N D m k n d = some s → -4611686018427387904 ≤ s.1 ∧ s.1 ≤ 4611686018427387904 ∧ 0 ≤ s.2 ∧ s.2 ≤ 1000000000000000
  | 0, _, _, _, h, s, e => by cases e; exact h
  | m + 1, k, n, d, h, s, e => by
    rw [sumR] at e
    cases h4 : addO n d (N k) (D k) with
    | none => rw [h4] at e; cases e
    | some t => rw [h4] at e; exact sumR_range N D m (k + 1) t.1 t.2 (addO_range h4) s e
/-- What holds behind the sum with one more element. -/
def SumCut (U : World) (q qx : Nat) (a c x y u v : Int) (t : Bool) (vp vo : Value) (wr : World) : Prop :=
  ∃ L, vp = .pointer (some ⟨L, 0, none⟩) ∧ vo = .bool t ∧ two wr L (.int .i64 u) (.int .i64 v) ∧ two wr q (.int .i64 a) (.int .i64 c) ∧ two wr qx (.int .i64 x) (.int .i64 y) ∧ Below U.heap.size U wr
theorem SumCut.mk {U wr : World} {q qx L : Nat} {a c x y u v : Int} {t : Bool} (h1 : two wr L (.int .i64 u) (.int .i64 v)) (h2 : two wr q (.int .i64 a) (.int .i64 c)) (h3 : two wr qx (.int .i64 x) (.int .i64 y)) (h4 : Below U.heap.size U wr) : SumCut U q qx a c x y u v t (.pointer (some ⟨L, 0, none⟩)) (.bool t) wr := ⟨L, rfl, rfl, h1, h2, h3, h4⟩
set_option maxRecDepth 100000 in
theorem fracSums_walk (p : Option Addr) (len cap : Nat) (N D : Nat → Int) (a c : Int) (n0 : -9223372036854775808 ≤ a) (n1 : a ≤ 9223372036854775807) (d0 : -9223372036854775808 ≤ c) (d1 : c ≤ 9223372036854775807)
    (hl : len ≤ 9223372036854775807) (hc : p = none → cap = 0) (w : World) (hS : Src w p len N D) (hB : ∀ i, i < len → -9223372036854775808 ≤ N i ∧ N i ≤ 9223372036854775807 ∧ -9223372036854775808 ≤ D i ∧ D i ≤ 9223372036854775807) (hE : Env w) :
    Calls Tryd.prog 3 #[.slice p len cap, .agg #[.int .i64 a, .int .i64 c]] w (Gives (.bool true) w) := by
  have HB := Lib.hid hB
  have HM := Lib.hid (sumR_more N D len a c)
  have HR := Lib.hid (out_range _ (sumR_range N D len 0 0 1 (by decide)))
  clear hB
  go_enter Tryd.func3, Tryd.ntmps3
  rcases Nat.lt_or_ge 200 len with h | h
  · have c1 : (200 : Int) < (len : Int) := (by omega)
    go_wp2_with fail
    refine (awake_any _ (hE.below (by repeat (first | exact Below.refl _ _ | assumption | apply bl_alloc | apply bl_drewN | apply bl_drew | (refine bl_set ?_ (by first | (simp; done) | (simp; omega)) _) | (refine bl_call ?_ (by assumption)))))).mono ?_
    rintro e w1 ⟨rfl, hb1⟩
    go_wp2_with fail
    go_ret
    exact ⟨rfl, by repeat (first | exact Below.refl _ _ | assumption | apply bl_alloc | apply bl_drewN | apply bl_drew | (refine bl_set ?_ (by first | (simp; done) | (simp; omega)) _) | (refine bl_call ?_ (by assumption)))⟩
  · have c1 : (len : Int) ≤ (200 : Int) := (by omega)
    go_wp2_with fail
    refine (sum_src (hS.on (by (repeat (first | (with_reducible exact Below.refl _ _) | (with_reducible assumption) | (with_reducible apply bl_alloc) | (with_reducible apply bl_drewN) | (with_reducible apply bl_drew) | (with_reducible refine bl_set ?_ (by first | (simp; done) | (simp; omega)) _) | (with_reducible refine bl_call ?_ (by assumption)))))) hc hl).mono ?_
    rintro e w1 ⟨rfl, hb1⟩
    have A1 : two w1 w.heap.size (.int .i64 a) (.int .i64 c) := two.on hb1 two.new
    obtain ⟨r0, r1, r2, r3⟩ := HR.out
    generalize hx : oN (sumR N D len 0 0 1) = x
    generalize hy : oD (sumR N D len 0 0 1) = y
    generalize hz : oB (sumR N D len 0 0 1) = z
    rw [hx] at r0 r1
    rw [hy] at r2 r3
    go_wp2_with fail
    refine (rsum_src (hS.on (by (repeat (first | (with_reducible exact Below.refl _ _) | (with_reducible assumption) | (with_reducible apply bl_alloc) | (with_reducible apply bl_drewN) | (with_reducible apply bl_drew) | (with_reducible refine bl_set ?_ (by first | (simp; done) | (simp; omega)) _) | (with_reducible refine bl_call ?_ (by assumption)))))) hc hl).mono ?_
    rintro e w2 ⟨rfl, hb2⟩
    rw [hx, hy, hz]
    have A2 : two w2 w.heap.size (.int .i64 a) (.int .i64 c) := two.on hb2 (two.alloc A1)
    have X2 : two w2 w1.heap.size (.int .i64 x) (.int .i64 y) := two.on hb2 two.new
    have hw1 : w.heap.size < w1.heap.size := A1.2.2.2.2
    have hw2 : w1.heap.size < w2.heap.size := X2.2.2.2.2
    have A3 := two.alloc (o := .cells #[.int .i64 x, .int .i64 y] 24) A2
    have X3 := two.alloc (o := .cells #[.int .i64 x, .int .i64 y] 24) X2
    have Y3 : two (w2.alloc (.cells #[.int .i64 x, .int .i64 y] 24)) w2.heap.size (.int .i64 x) (.int .i64 y) := two.new
    have B3 : Below w.heap.size w (w2.alloc (.cells #[.int .i64 x, .int .i64 y] 24)) := by (repeat (first | (with_reducible exact Below.refl _ _) | (with_reducible assumption) | (with_reducible apply bl_alloc) | (with_reducible apply bl_drewN) | (with_reducible apply bl_drew) | (with_reducible refine bl_set ?_ (by first | (simp; done) | (simp; omega)) _) | (with_reducible refine bl_call ?_ (by assumption))))
    have HS := hS.on B3
    obtain ⟨a0, a1, a2, a3, a4⟩ := A3
    obtain ⟨x0, x1, x2, x3, x4⟩ := X3
    obtain ⟨y0, y1, y2, y3, y4⟩ := Y3
    go_wp2_with fail
    have A3 : two _ _ _ _ := ⟨a0, a1, a2, a3, a4⟩
    have X3 : two _ _ _ _ := ⟨x0, x1, x2, x3, x4⟩
    generalize w2.alloc (Obj.cells #[Value.int IntKind.i64 x, Value.int IntKind.i64 y] 24) = U at *
    clear y0 y1 y2 y3 y4 hb1 hb2 A1 A2 X2
    generalize w1.heap.size = qx at *
    generalize w2.heap.size = qy at *
    have hgl : ∀ i, i < len + 1 → -9223372036854775808 ≤ glueI N len (fun _ => a) i ∧ glueI N len (fun _ => a) i ≤ 9223372036854775807 ∧ -9223372036854775808 ≤ glueI D len (fun _ => c) i ∧ glueI D len (fun _ => c) i ≤ 9223372036854775807 := by
      intro i hi
      unfold glueI
      by_cases e : i < len
      · rw [if_pos e, if_pos e]; exact HB.out i e
      · rw [if_neg e, if_neg e]; exact ⟨n0, n1, d0, d1⟩
    have quy : w.heap.size < U.heap.size := a4
    have qux : qx < U.heap.size := x4
    have q0a0 : w.heap.size ≠ U.heap.size := (by omega)
    have q0x0 : qx ≠ U.heap.size := (by omega)
    have q0a1 : w.heap.size ≠ U.heap.size + 1 := (by omega)
    have q0x1 : qx ≠ U.heap.size + 1 := (by omega)
    have q0a2 : w.heap.size ≠ U.heap.size + 2 := (by omega)
    have q0x2 : qx ≠ U.heap.size + 2 := (by omega)
    obtain ⟨u, hu⟩ : ∃ u, oN (addO x y a c) = u := ⟨_, rfl⟩
    obtain ⟨v, hv⟩ : ∃ v, oD (addO x y a c) = v := ⟨_, rfl⟩
    obtain ⟨t, ht⟩ : ∃ t, oB (addO x y a c) = t := ⟨_, rfl⟩
    have AD := Lib.hid fun w' => add_any x y a c r0 r1 r2 r3 n0 n1 d0 d1 w'
    rw [hu, hv, ht] at AD
    have B3' := Lib.hid B3
    have HU := Lib.hid hu
    have HV := Lib.hid hv
    have HT := Lib.hid ht
    go_cut [9, 10] (SumCut U w.heap.size qx a c x y u v t)
    case first =>
      go_region_held3 (fun w' => w'.cell? ⟨w.heap.size, 0, none⟩ = some (.int .i64 a) ∧ w'.cell? ⟨w.heap.size, 1, none⟩ = some (.int .i64 c)) (first | (go_keep; done) | (refine two_cells ?_; ((repeat (first | (with_reducible assumption) | (with_reducible refine two.far ?_ (by assumption)) | (with_reducible exact two_new (by first | rfl | (simp; done) | (simp; omega))) | (with_reducible refine two.drew ?_) | (with_reducible refine two.alloc ?_) | (with_reducible refine two.call ?_ (by assumption))))); done))
        (first
          | (rw [if_pos (by rfl)]; (first | (refine wp_app1 (lo := U.heap.size) (v := .slice (some ⟨U.heap.size, 0, none⟩) 0 0) (p := p) (m := len) (c := cap) (M := N) (E := D) _ _ rfl rfl ?_ ?_ ?_ ?_ ?_ ?_ ?_; (focus (exact rfl)); (focus (exact rfl))) | (refine wp_app1 (lo := U.heap.size) (v := .slice (some ⟨U.heap.size + 1, 0, none⟩) 0 0) (p := p) (m := len) (c := cap) (M := N) (E := D) _ _ rfl rfl ?_ ?_ ?_ ?_ ?_ ?_ ?_; (focus (exact rfl)); (focus (exact rfl))) | (refine wp_app1 (lo := U.heap.size) (v := .slice (some ⟨U.heap.size + 2, 0, none⟩) 0 0) (p := p) (m := len) (c := cap) (M := N) (E := D) _ _ rfl rfl ?_ ?_ ?_ ?_ ?_ ?_ ?_; (focus (exact rfl)); (focus (exact rfl)))); (focus (((repeat (first | (with_reducible assumption) | (with_reducible exact own_lit (by first | rfl | (simp; done) | (simp; omega)) (by first | (simp; done) | (simp; omega))) | (with_reducible refine own_drew ?_) | (with_reducible refine own_alloc ?_)))); done)); (focus (refine HS.on ?_; (repeat (first | (with_reducible exact Below.refl _ _) | (with_reducible assumption) | (with_reducible apply bl_alloc) | (with_reducible apply bl_drewN) | (with_reducible apply bl_drew) | (with_reducible refine bl_set ?_ (by first | (simp; done) | (simp; omega)) _) | (with_reducible refine bl_call ?_ (by assumption)))))); (focus (omega)); (focus (first | (with_reducible exact Nat.le_refl _) | (simp; done) | (simp; omega))); rintro v2 w4 O2 G2 D2 F2; have B4 := F2 U rfl (by (repeat (first | (with_reducible exact Below.refl _ _) | (with_reducible assumption) | (with_reducible apply bl_alloc) | (with_reducible apply bl_drewN) | (with_reducible apply bl_drew) | (with_reducible refine bl_set ?_ (by first | (simp; done) | (simp; omega)) _) | (with_reducible refine bl_call ?_ (by assumption))))); have A4 := two.on B4 A3; have X4 := two.on B4 X3; have S4 := B4.size; have q4a0 : w.heap.size ≠ w4.heap.size := (by omega); have q4x0 : qx ≠ w4.heap.size := (by omega); have q4a1 : w.heap.size ≠ w4.heap.size + 1 := (by omega); have q4x1 : qx ≠ w4.heap.size + 1 := (by omega); (first | (obtain ⟨L4, NL4⟩ : two w4 (U.heap.size) (.int .i64 0) (.int .i64 0) ∧ v2.ownBlock ≠ some (U.heap.size); (focus (refine app_keep ?_ G2 D2 ?_; (focus (((repeat (first | (with_reducible assumption) | (with_reducible exact two_new (by first | rfl | (simp; done) | (simp; omega))) | (with_reducible refine two.drew ?_) | (with_reducible refine two.alloc ?_) | (with_reducible refine two.call ?_ (by assumption))))); done)); (focus (first | (simp [Value.ownBlock]; done) | (simp [Value.ownBlock]; omega) | (intro e; injection e with e; omega)))))) | (obtain ⟨L4, NL4⟩ : two w4 (U.heap.size + 1) (.int .i64 0) (.int .i64 0) ∧ v2.ownBlock ≠ some (U.heap.size + 1); (focus (refine app_keep ?_ G2 D2 ?_; (focus (((repeat (first | (with_reducible assumption) | (with_reducible exact two_new (by first | rfl | (simp; done) | (simp; omega))) | (with_reducible refine two.drew ?_) | (with_reducible refine two.alloc ?_) | (with_reducible refine two.call ?_ (by assumption))))); done)); (focus (first | (simp [Value.ownBlock]; done) | (simp [Value.ownBlock]; omega) | (intro e; injection e with e; omega)))))) | (obtain ⟨L4, NL4⟩ : two w4 (U.heap.size + 2) (.int .i64 0) (.int .i64 0) ∧ v2.ownBlock ≠ some (U.heap.size + 2); (focus (refine app_keep ?_ G2 D2 ?_; (focus (((repeat (first | (with_reducible assumption) | (with_reducible exact two_new (by first | rfl | (simp; done) | (simp; omega))) | (with_reducible refine two.drew ?_) | (with_reducible refine two.alloc ?_) | (with_reducible refine two.call ?_ (by assumption))))); done)); (focus (first | (simp [Value.ownBlock]; done) | (simp [Value.ownBlock]; omega) | (intro e; injection e with e; omega)))))) | skip); (first | (obtain ⟨E4, NE4⟩ : two w4 (U.heap.size) (.int .i64 a) (.int .i64 c) ∧ v2.ownBlock ≠ some (U.heap.size); (focus (refine app_keep ?_ G2 D2 ?_; (focus (((repeat (first | (with_reducible assumption) | (with_reducible exact two_new (by first | rfl | (simp; done) | (simp; omega))) | (with_reducible refine two.drew ?_) | (with_reducible refine two.alloc ?_) | (with_reducible refine two.call ?_ (by assumption))))); done)); (focus (first | (simp [Value.ownBlock]; done) | (simp [Value.ownBlock]; omega) | (intro e; injection e with e; omega)))))) | (obtain ⟨E4, NE4⟩ : two w4 (U.heap.size + 1) (.int .i64 a) (.int .i64 c) ∧ v2.ownBlock ≠ some (U.heap.size + 1); (focus (refine app_keep ?_ G2 D2 ?_; (focus (((repeat (first | (with_reducible assumption) | (with_reducible exact two_new (by first | rfl | (simp; done) | (simp; omega))) | (with_reducible refine two.drew ?_) | (with_reducible refine two.alloc ?_) | (with_reducible refine two.call ?_ (by assumption))))); done)); (focus (first | (simp [Value.ownBlock]; done) | (simp [Value.ownBlock]; omega) | (intro e; injection e with e; omega)))))) | (obtain ⟨E4, NE4⟩ : two w4 (U.heap.size + 2) (.int .i64 a) (.int .i64 c) ∧ v2.ownBlock ≠ some (U.heap.size + 2); (focus (refine app_keep ?_ G2 D2 ?_; (focus (((repeat (first | (with_reducible assumption) | (with_reducible exact two_new (by first | rfl | (simp; done) | (simp; omega))) | (with_reducible refine two.drew ?_) | (with_reducible refine two.alloc ?_) | (with_reducible refine two.call ?_ (by assumption))))); done)); (focus (first | (simp [Value.ownBlock]; done) | (simp [Value.ownBlock]; omega) | (intro e; injection e with e; omega)))))) | skip))
          | (rw [if_pos (by rfl)]; (first | (refine wp_app (lo := U.heap.size) (v := v2) (n := len) (N := N) (D := D) (p := some ⟨U.heap.size, 0, none⟩) (m := 1) (c := 1) (M := fun _ => a) (E := fun _ => c) _ _ rfl rfl ?_ ?_ ?_ (src_two ?_ n0 n1 d0 d1) ?_ ?_ ?_; (focus (exact rfl)); (focus (exact rfl))) | (refine wp_app (lo := U.heap.size) (v := v2) (n := len) (N := N) (D := D) (p := some ⟨U.heap.size + 1, 0, none⟩) (m := 1) (c := 1) (M := fun _ => a) (E := fun _ => c) _ _ rfl rfl ?_ ?_ ?_ (src_two ?_ n0 n1 d0 d1) ?_ ?_ ?_; (focus (exact rfl)); (focus (exact rfl))) | (refine wp_app (lo := U.heap.size) (v := v2) (n := len) (N := N) (D := D) (p := some ⟨U.heap.size + 2, 0, none⟩) (m := 1) (c := 1) (M := fun _ => a) (E := fun _ => c) _ _ rfl rfl ?_ ?_ ?_ (src_two ?_ n0 n1 d0 d1) ?_ ?_ ?_; (focus (exact rfl)); (focus (exact rfl))) | (refine wp_app (lo := U.heap.size) (v := v2) (n := len) (N := N) (D := D) (p := some ⟨w4.heap.size, 0, none⟩) (m := 1) (c := 1) (M := fun _ => a) (E := fun _ => c) _ _ rfl rfl ?_ ?_ ?_ (src_two ?_ n0 n1 d0 d1) ?_ ?_ ?_; (focus (exact rfl)); (focus (exact rfl))) | (refine wp_app (lo := U.heap.size) (v := v2) (n := len) (N := N) (D := D) (p := some ⟨w4.heap.size + 1, 0, none⟩) (m := 1) (c := 1) (M := fun _ => a) (E := fun _ => c) _ _ rfl rfl ?_ ?_ ?_ (src_two ?_ n0 n1 d0 d1) ?_ ?_ ?_; (focus (exact rfl)); (focus (exact rfl)))); (focus (((repeat (first | (with_reducible assumption) | (with_reducible exact own_lit (by first | rfl | (simp; done) | (simp; omega)) (by first | (simp; done) | (simp; omega))) | (with_reducible refine own_drew ?_) | (with_reducible refine own_alloc ?_)))); done)); (focus (((repeat (first | (with_reducible assumption) | (with_reducible exact two_new (by first | rfl | (simp; done) | (simp; omega))) | (with_reducible refine two.drew ?_) | (with_reducible refine two.alloc ?_) | (with_reducible refine two.call ?_ (by assumption))))); done)); (focus (omega)); (focus (first | (with_reducible assumption) | (simp; done) | (simp; omega))); rintro v5 w6 O5 G5 D5 F5; have B6 := F5 U rfl (by (repeat (first | (with_reducible exact Below.refl _ _) | (with_reducible assumption) | (with_reducible apply bl_alloc) | (with_reducible apply bl_drewN) | (with_reducible apply bl_drew) | (with_reducible refine bl_set ?_ (by first | (simp; done) | (simp; omega)) _) | (with_reducible refine bl_call ?_ (by assumption))))); have A6 := two.on B6 A3; have X6 := two.on B6 X3; have S6 := B6.size; have q6a0 : w.heap.size ≠ w6.heap.size := (by omega); have q6x0 : qx ≠ w6.heap.size := (by omega); (first | (obtain ⟨L6, TL6⟩ : two w6 (U.heap.size) (.int .i64 0) (.int .i64 0) ∧ True; (focus (refine And.intro (two.grown ?_ G5 (by assumption)) trivial; (((repeat (first | (with_reducible assumption) | (with_reducible exact two_new (by first | rfl | (simp; done) | (simp; omega))) | (with_reducible refine two.drew ?_) | (with_reducible refine two.alloc ?_) | (with_reducible refine two.call ?_ (by assumption))))); done)))) | (obtain ⟨L6, TL6⟩ : two w6 (U.heap.size + 1) (.int .i64 0) (.int .i64 0) ∧ True; (focus (refine And.intro (two.grown ?_ G5 (by assumption)) trivial; (((repeat (first | (with_reducible assumption) | (with_reducible exact two_new (by first | rfl | (simp; done) | (simp; omega))) | (with_reducible refine two.drew ?_) | (with_reducible refine two.alloc ?_) | (with_reducible refine two.call ?_ (by assumption))))); done)))) | (obtain ⟨L6, TL6⟩ : two w6 (U.heap.size + 2) (.int .i64 0) (.int .i64 0) ∧ True; (focus (refine And.intro (two.grown ?_ G5 (by assumption)) trivial; (((repeat (first | (with_reducible assumption) | (with_reducible exact two_new (by first | rfl | (simp; done) | (simp; omega))) | (with_reducible refine two.drew ?_) | (with_reducible refine two.alloc ?_) | (with_reducible refine two.call ?_ (by assumption))))); done)))) | (obtain ⟨L6, TL6⟩ : two w6 (w4.heap.size) (.int .i64 0) (.int .i64 0) ∧ True; (focus (refine And.intro (two.grown ?_ G5 (own_ne O2 (Nat.le_refl _))) trivial; (((repeat (first | (with_reducible assumption) | (with_reducible exact two_new (by first | rfl | (simp; done) | (simp; omega))) | (with_reducible refine two.drew ?_) | (with_reducible refine two.alloc ?_) | (with_reducible refine two.call ?_ (by assumption))))); done)))) | (obtain ⟨L6, TL6⟩ : two w6 (w4.heap.size + 1) (.int .i64 0) (.int .i64 0) ∧ True; (focus (refine And.intro (two.grown ?_ G5 (own_ne O2 (Nat.le_succ _))) trivial; (((repeat (first | (with_reducible assumption) | (with_reducible exact two_new (by first | rfl | (simp; done) | (simp; omega))) | (with_reducible refine two.drew ?_) | (with_reducible refine two.alloc ?_) | (with_reducible refine two.call ?_ (by assumption))))); done)))) | skip); obtain ⟨g, d, rfl, HE6⟩ := own_elems O5 hgl)
          | (go_at_call 6; (with_reducible refine (sum_some g 0 (len + 1) d _ _ (by omega) _ (elems.on (by (repeat (first | (with_reducible exact Below.refl _ _) | (with_reducible assumption) | (with_reducible apply bl_alloc) | (with_reducible apply bl_drewN) | (with_reducible apply bl_drew) | (with_reducible refine bl_set ?_ (by first | (simp; done) | (simp; omega)) _) | (with_reducible refine bl_call ?_ (by assumption))))) HE6)).mono ?_); rintro e w7 ⟨rfl, hb7⟩; rw [HM.out, hx, hy, hu, hv, ht]; have A8 := two.on hb7 (by first | exact A6 | exact two.alloc A6); have X8 := two.on hb7 (by first | exact X6 | exact two.alloc X6); have B8 : Below U.heap.size U w7 := (by (repeat (first | (with_reducible exact Below.refl _ _) | (with_reducible assumption) | (with_reducible apply bl_alloc) | (with_reducible apply bl_drewN) | (with_reducible apply bl_drew) | (with_reducible refine bl_set ?_ (by first | (simp; done) | (simp; omega)) _) | (with_reducible refine bl_call ?_ (by assumption))))); have S8 := B8.size; have q8a0 : w.heap.size ≠ w7.heap.size := (by omega); have q8x0 : qx ≠ w7.heap.size := (by omega); (first | (have L8 := two.on hb7 L6) | (have L8 := two.on hb7 (two.alloc L6)) | (have L8 : two w7 w6.heap.size (.int .i64 0) (.int .i64 0) := two.on hb7 two.new) | skip); obtain ⟨a0', a1', a2', a3', a4'⟩ := A8; obtain ⟨x0', x1', x2', x3', x4'⟩ := X8; have A8 : two _ _ _ _ := ⟨a0', a1', a2', a3', a4'⟩; have X8 : two _ _ _ _ := ⟨x0', x1', x2', x3', x4'⟩; (first | (obtain ⟨l0', l1', l2', l3', l4'⟩ := L8; have L8 : two _ _ _ _ := ⟨l0', l1', l2', l3', l4'⟩) | skip)))
      all_goals
        go_wp2_with fail
        go_meet
        first
          | exact SumCut.mk (two.set2 L8) (by ((repeat (first | (with_reducible assumption) | (with_reducible refine two.far ?_ (by assumption)) | (with_reducible exact two_new (by first | rfl | (simp; done) | (simp; omega))) | (with_reducible refine two.drew ?_) | (with_reducible refine two.alloc ?_) | (with_reducible refine two.call ?_ (by assumption)))))) (by ((repeat (first | (with_reducible assumption) | (with_reducible refine two.far ?_ (by assumption)) | (with_reducible exact two_new (by first | rfl | (simp; done) | (simp; omega))) | (with_reducible refine two.drew ?_) | (with_reducible refine two.alloc ?_) | (with_reducible refine two.call ?_ (by assumption)))))) (by (repeat (first | (with_reducible exact Below.refl _ _) | (with_reducible assumption) | (with_reducible apply bl_alloc) | (with_reducible apply bl_drewN) | (with_reducible apply bl_drew) | (with_reducible refine bl_set ?_ (by first | (simp; done) | (simp; omega)) _) | (with_reducible refine bl_call ?_ (by assumption)))))
          | exact SumCut.mk (two.set2 two.new) (by ((repeat (first | (with_reducible assumption) | (with_reducible refine two.far ?_ (by assumption)) | (with_reducible exact two_new (by first | rfl | (simp; done) | (simp; omega))) | (with_reducible refine two.drew ?_) | (with_reducible refine two.alloc ?_) | (with_reducible refine two.call ?_ (by assumption)))))) (by ((repeat (first | (with_reducible assumption) | (with_reducible refine two.far ?_ (by assumption)) | (with_reducible exact two_new (by first | rfl | (simp; done) | (simp; omega))) | (with_reducible refine two.drew ?_) | (with_reducible refine two.alloc ?_) | (with_reducible refine two.call ?_ (by assumption)))))) (by (repeat (first | (with_reducible exact Below.refl _ _) | (with_reducible assumption) | (with_reducible apply bl_alloc) | (with_reducible apply bl_drewN) | (with_reducible apply bl_drew) | (with_reducible refine bl_set ?_ (by first | (simp; done) | (simp; omega)) _) | (with_reducible refine bl_call ?_ (by assumption)))))
          | exact SumCut.mk two.new (by ((repeat (first | (with_reducible assumption) | (with_reducible refine two.far ?_ (by assumption)) | (with_reducible exact two_new (by first | rfl | (simp; done) | (simp; omega))) | (with_reducible refine two.drew ?_) | (with_reducible refine two.alloc ?_) | (with_reducible refine two.call ?_ (by assumption)))))) (by ((repeat (first | (with_reducible assumption) | (with_reducible refine two.far ?_ (by assumption)) | (with_reducible exact two_new (by first | rfl | (simp; done) | (simp; omega))) | (with_reducible refine two.drew ?_) | (with_reducible refine two.alloc ?_) | (with_reducible refine two.call ?_ (by assumption)))))) (by (repeat (first | (with_reducible exact Below.refl _ _) | (with_reducible assumption) | (with_reducible apply bl_alloc) | (with_reducible apply bl_drewN) | (with_reducible apply bl_drew) | (with_reducible refine bl_set ?_ (by first | (simp; done) | (simp; omega)) _) | (with_reducible refine bl_call ?_ (by assumption)))))
    case rest =>
      obtain ⟨L, rfl, rfl, L9, A9, X9, B9⟩ := hcut
      clear A3 X3 a0 a1 a2 a3 a4 x0 x1 x2 x3 x4 hgl
      obtain ⟨a0, a1, a2, a3, a4⟩ := A9
      obtain ⟨x0, x1, x2, x3, x4⟩ := X9
      have A9 : two _ _ _ _ := ⟨a0, a1, a2, a3, a4⟩
      have X9 : two _ _ _ _ := ⟨x0, x1, x2, x3, x4⟩
      go_wp2_with fail
      refine (AD.out _).mono ?_
      rintro e w9 ⟨rfl, hb9⟩
      obtain ⟨l0, l1, l2, l3, l4⟩ := two.on hb9 L9
      have B9p := bl_call B3'.out B9
      go_wp2_with fail
      refine (awake_any _ (hE.below (by (repeat (first | (with_reducible exact Below.refl _ _) | (with_reducible assumption) | (with_reducible apply bl_alloc) | (with_reducible apply bl_drewN) | (with_reducible apply bl_drew) | (with_reducible refine bl_set ?_ (by first | (simp; done) | (simp; omega)) _) | (with_reducible refine bl_call ?_ (by assumption))))))).mono ?_
      rintro e w10 ⟨rfl, hb10⟩
      go_wp2_with fail
      go_ret
      exact ⟨rfl, by (repeat (first | (with_reducible exact Below.refl _ _) | (with_reducible assumption) | (with_reducible apply bl_alloc) | (with_reducible apply bl_drewN) | (with_reducible apply bl_drew) | (with_reducible refine bl_set ?_ (by first | (simp; done) | (simp; omega)) _) | (with_reducible refine bl_call ?_ (by assumption))))⟩
end Go.Proofs.YtnfddeoddjmpkabDoor
