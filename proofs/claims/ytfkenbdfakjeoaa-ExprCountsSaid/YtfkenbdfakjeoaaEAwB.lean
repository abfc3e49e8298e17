/-
  Variables of expressions in memory; the contracts at the chapter's examples.
-/
import Derived.Test.YtfkenbdfakjeoaaEAwV
import Derived.Test.YtfkenbdfakjeoaaERep
import Derived.Test.YtfkenbdfakjeoaaERRep
import Derived.Test.YtfkenbdfakjeoaaEMent
import Derived.Test.YtfkenbdfakjeoaaESame
namespace Go.Proofs.Ytfkenbdfakjeoaa.Ex
open Go.RowKit
open Go.Proofs.Ytfkenbdfakjeoaa.Na (bs bs_inj chk)
set_option maxHeartbeats 4000000
set_option linter.unusedVariables false
/-- A variable that holds an expression. -/
def Var (W : World) (g : Nat) (x : Ex) (p : Option Addr) (m c : Nat) : Prop := box4 W g x.o x.s x.n p m c ∧ In W x p m
theorem Var.on {W W2 : World} {g : Nat} {x : Ex} {p : Option Addr} {m c : Nat} (hb : Below W.heap.size W W2) (h : Var W g x p m c) : Var W2 g x p m c := ⟨h.1.on hb, h.2.on hb⟩
theorem below_new {W : World} {C : Array Value} {t : TypeId} : Below W.heap.size W (W.alloc (.cells C t)) := bl_alloc (Below.refl _ _)
theorem var_new {W : World} {x : Ex} {p : Option Addr} {m c : Nat} (hx : In W x p m) : Var (W.alloc (.cells #[.int .i64 x.o, .string x.s, .int .i64 x.n, .slice p m c] 25)) W.heap.size x p m c :=
  ⟨box_new, hx.alloc _⟩
theorem Var.far {U : World} {g : Nat} {x : Ex} {p : Option Addr} {m c : Nat} (h : Var U g x p m c) : Hid (∀ W, Below U.heap.size U W → Var W g x p m c) := Lib.hid fun W hb => h.on hb
theorem Var.inn {U : World} {g : Nat} {x : Ex} {p : Option Addr} {m c : Nat} (h : Var U g x p m c) : In U x p m := h.2
theorem frz_set {W : World} {g g' k : Nat} {v : Value} (h : frz4 W g) : frz4 (W.setCell ⟨g', k, none⟩ v) g := by
  intro j
  simp [go_sem, h j]
theorem frz4_new {w : World} {C : Array Value} {t : TypeId} : frz4 (w.alloc (.cells C t)) w.heap.size := fun k => frz_new k
/-- The variable that the loop nests, in a world that has kept what was there before it. -/
structure Nx (W5 wr : World) (x : Ex) (p : Option Addr) (m c : Nat) : Prop where
  b : box4 wr W5.heap.size x.o x.s x.n p m c
  f : frz4 wr W5.heap.size
  k : Kin (fun b => b ≠ W5.heap.size) wr x p m
  h : Below W5.heap.size W5 wr
  z : W5.heap.size < wr.heap.size
theorem Nx.new {W5 : World} {o n : Int} {s : ByteArray} {p : Option Addr} {c : Nat} : Nx W5 (W5.alloc (.cells #[.int .i64 o, .string s, .int .i64 n, .slice p 0 c] 25)) (.mk o s n []) p 0 c :=
  ⟨box_new, frz4_new, Kin.zero, below_new, by simp⟩
theorem kin_sets {W : World} {g k : Nat} {x : Ex} {p : Option Addr} {m : Nat} (hk : Kin (fun b => b ≠ g) W x p m) (v : Value) : Kin (fun b => b ≠ g) (W.setCell ⟨g, k, none⟩ v) x p m :=
  Kin.map (by simp) (fun b hb _ => ⟨hb, set_far hb⟩) x hk
theorem Nx.step {W5 wr : World} {x : Ex} {p : Option Addr} {m c : Nat} (h : Nx W5 wr x p m c) : Nx W5 ((((((wr.setCell ⟨W5.heap.size, 0, none⟩ (.int .i64 6)).setCell ⟨W5.heap.size, 1, none⟩ (.string mE)).setCell ⟨W5.heap.size, 2, none⟩ (.int .i64 0)).setCell ⟨W5.heap.size, 3, none⟩ (.slice (some ⟨wr.heap.size, 0, none⟩) 1 1))).alloc (.cells #[.int .i64 x.o, .string x.s, .int .i64 x.n, .slice p m c] 25)) (.mk 6 mE 0 [x]) (some ⟨wr.heap.size, 0, none⟩) 1 1 := by
  have hz := h.z
  obtain ⟨wv, hwv⟩ : ∃ wv, ((((wr.setCell ⟨W5.heap.size, 0, none⟩ (.int .i64 6)).setCell ⟨W5.heap.size, 1, none⟩ (.string mE)).setCell ⟨W5.heap.size, 2, none⟩ (.int .i64 0)).setCell ⟨W5.heap.size, 3, none⟩ (.slice (some ⟨wr.heap.size, 0, none⟩) 1 1)) = wv := ⟨_, rfl⟩
  have hzv : wv.heap.size = wr.heap.size := by rw [← hwv]; simp
  have h4 : box4 wv W5.heap.size 6 mE 0 (some ⟨wr.heap.size, 0, none⟩) 1 1 := by rw [← hwv]; exact set4 h.b _ _ _ _ _ _
  have hf : frz4 wv W5.heap.size := by rw [← hwv]; exact frz_set (frz_set (frz_set (frz_set h.f)))
  have hk : Kin (fun b => b ≠ W5.heap.size) wv x p m := by rw [← hwv]; exact kin_sets (kin_sets (kin_sets (kin_sets h.k _) _) _) _
  have hbl : Below W5.heap.size W5 wv := by rw [← hwv]; exact below4 h.h (Nat.le_refl _) _ _ _ _
  rw [hwv]
  have hb : Below wv.heap.size wv (wv.alloc (.cells #[.int .i64 x.o, .string x.s, .int .i64 x.n, .slice p m c] 25)) := bl_alloc (Below.refl _ _)
  have hn4 := new4 (w := wv) (x := x) (p := p) (m := m) (c := c) (t := 25)
  rw [hzv] at hn4
  refine ⟨h4.on hb, hf.on hb (by omega), ?_, hbl.trans (hb.mono (by omega)), by simp; omega⟩
  refine kin_iff.2 ⟨rfl, by omega, .inr ⟨_, _, rfl, by omega, by simp; omega, Lib.hid fun k hk' => ?_⟩⟩
  obtain rfl : k = 0 := by simpa using hk'
  exact ⟨p, m, c, hn4, Kin.map (by simp) (fun b hb' hlt => ⟨hb', hb.block b hlt⟩) x hk⟩
theorem Nx.var {W5 wr : World} {x : Ex} {p : Option Addr} {m c : Nat} (h : Nx W5 wr x p m c) : Var wr W5.heap.size x p m c := ⟨h.b, h.k.all⟩
theorem In.nest {wr : World} {x : Ex} {p : Option Addr} {m c : Nat} {o n : Int} {s : ByteArray} (h : In wr x p m) : In (wr.alloc (.cells #[.int .i64 x.o, .string x.s, .int .i64 x.n, .slice p m c] 25)) (.mk o s n [x]) (some ⟨wr.heap.size, 0, none⟩) 1 :=
  In.one (by simp) new4 (h.alloc _)
theorem deep_var {wr : World} {x : Ex} {p : Option Addr} {m c : Nat} (hx : In wr x p m) : Var ((wr.alloc (.cells #[.int .i64 x.o, .string x.s, .int .i64 x.n, .slice p m c] 25)).alloc (.cells #[.int .i64 6, .string mE, .int .i64 0, .slice (some ⟨wr.heap.size, 0, none⟩) 1 1] 25)) (wr.heap.size + 1) (.mk 6 mE 0 [x]) (some ⟨wr.heap.size, 0, none⟩) 1 1 := by
  have h := var_new (x := .mk 6 mE 0 [x]) (c := 1) (In.nest (o := 6) (n := 0) (s := mE) (c := c) hx)
  have hz : (wr.alloc (.cells #[.int .i64 x.o, .string x.s, .int .i64 x.n, .slice p m c] 25)).heap.size = wr.heap.size + 1 := by simp
  rw [hz] at h
  exact h
theorem keep16 {w' : World} {g1 g2 g3 g4 : Nat} {o1 o2 o3 o4 n1 n2 n3 n4 : Int} {s1 s2 s3 s4 : ByteArray} {p1 p2 p3 p4 : Option Addr} {m1 c1 m2 c2 m3 c3 m4 c4 : Nat} (h1 : box4 w' g1 o1 s1 n1 p1 m1 c1) (h2 : box4 w' g2 o2 s2 n2 p2 m2 c2) (h3 : box4 w' g3 o3 s3 n3 p3 m3 c3) (h4 : box4 w' g4 o4 s4 n4 p4 m4 c4) :
    (w'.cell? ⟨g1, 0, none⟩ = some (.int .i64 o1) ∧ w'.cell? ⟨g1, 1, none⟩ = some (.string s1) ∧ w'.cell? ⟨g1, 2, none⟩ = some (.int .i64 n1) ∧ w'.cell? ⟨g1, 3, none⟩ = some (.slice p1 m1 c1)) ∧ (w'.cell? ⟨g2, 0, none⟩ = some (.int .i64 o2) ∧ w'.cell? ⟨g2, 1, none⟩ = some (.string s2) ∧ w'.cell? ⟨g2, 2, none⟩ = some (.int .i64 n2) ∧ w'.cell? ⟨g2, 3, none⟩ = some (.slice p2 m2 c2)) ∧ (w'.cell? ⟨g3, 0, none⟩ = some (.int .i64 o3) ∧ w'.cell? ⟨g3, 1, none⟩ = some (.string s3) ∧ w'.cell? ⟨g3, 2, none⟩ = some (.int .i64 n3) ∧ w'.cell? ⟨g3, 3, none⟩ = some (.slice p3 m3 c3)) ∧ (w'.cell? ⟨g4, 0, none⟩ = some (.int .i64 o4) ∧ w'.cell? ⟨g4, 1, none⟩ = some (.string s4) ∧ w'.cell? ⟨g4, 2, none⟩ = some (.int .i64 n4) ∧ w'.cell? ⟨g4, 3, none⟩ = some (.slice p4 m4 c4)) := ⟨h1, h2, h3, h4⟩
theorem Txs.far {U : World} {p : Option Addr} {n : Nat} {l : List Nm} (h : Txs U p n l) : Hid (∀ W, Below U.heap.size U W → Txs W p n l) := Lib.hid fun _ hb => h.on hb
theorem word_at (s : ByteArray) (w : World) : Calls Try.prog 24 #[.string s] w (GivesE (wdE s) w) := word_any s w
theorem two_at {o : Int} {x y z : Ex} (hz : .mk o mE 0 [x, y] = z) {p : Option Addr} {m c : Nat} {p2 : Option Addr} {m2 c2 : Nat} {w : World} (hx : In w x p m) (hy : In w y p2 m2) : Calls Try.prog 34 #[.int .i64 o, .agg #[.int .i64 x.o, .string x.s, .int .i64 x.n, .slice p m c], .agg #[.int .i64 y.o, .string y.s, .int .i64 y.n, .slice p2 m2 c2]] w (GivesE z w) := by
  rw [← hz]; exact two_any o x y p m c p2 m2 c2 w hx hy
theorem repl_at {nm : ByteArray} {y e z : Ex} (hz : rep nm y e = z) (hcy : cnt y ≤ 1000000) (hce : cnt e ≤ 1000000) {p : Option Addr} {m c : Nat} {p2 : Option Addr} {m2 c2 : Nat} {w : World} (hx : In w e p m) (hy : In w y p2 m2) : Calls Try.prog 27 #[.agg #[.int .i64 e.o, .string e.s, .int .i64 e.n, .slice p m c], .string nm, .agg #[.int .i64 y.o, .string y.s, .int .i64 y.n, .slice p2 m2 c2]] w (GivesE z w) := by
  rw [← hz]
  refine (replace_any nm y p2 m2 c2 hcy e w.heap.size p m c w hx hy (Nat.le_refl _) hce).mono ?_
  rintro e w' ⟨p', m', c', rfl, hk, hb⟩
  exact ⟨_, _, _, rfl, hk.all, hb⟩
theorem rrepl_at {nm : ByteArray} {y e z : Ex} (hz : rep nm y e = z) (hce : cnt e ≤ 1000000) {p : Option Addr} {m c : Nat} {p2 : Option Addr} {m2 c2 : Nat} {w : World} (hx : In w e p m) (hy : In w y p2 m2) : Calls Try.prog 26 #[.agg #[.int .i64 e.o, .string e.s, .int .i64 e.n, .slice p m c], .string nm, .agg #[.int .i64 y.o, .string y.s, .int .i64 y.n, .slice p2 m2 c2]] w (GivesE z w) := by
  rw [← hz]
  refine (rrep_any nm y p2 m2 c2 e w.heap.size p m c w hx hy (Nat.le_refl _) hce).mono ?_
  rintro e w' ⟨p', m', c', rfl, hk, hb⟩
  exact ⟨_, _, _, rfl, hk.all, hb⟩
theorem check_at {e : Ex} {x : Int} (h : chkE false e = x) (hs : Sz e) (hc : cnt e ≤ 1000000) {p : Option Addr} {m c : Nat} {w : World} (hi : In w e p m) : Calls Try.prog 12 #[.agg #[.int .i64 e.o, .string e.s, .int .i64 e.n, .slice p m c]] w (Gives (.int .i64 x) w) := by rw [← h]; exact check_any e p m c w hi hs hc
theorem code_at {e : Ex} {x : Int} (h : chkE true e = x) (hs : Sz e) (hc : cnt e ≤ 1000000) {p : Option Addr} {m c : Nat} {w : World} (hi : In w e p m) : Calls Try.prog 14 #[.agg #[.int .i64 e.o, .string e.s, .int .i64 e.n, .slice p m c]] w (Gives (.int .i64 x) w) := by rw [← h]; exact code_any e p m c w hi hs hc
theorem depth_at {e : Ex} {x : Int} (h : (dep e : Int) = x) (hc : cnt e ≤ 1000000) {p : Option Addr} {m c : Nat} {w : World} (hi : In w e p m) : Calls Try.prog 18 #[.agg #[.int .i64 e.o, .string e.s, .int .i64 e.n, .slice p m c]] w (Gives (.int .i64 x) w) := by rw [← h]; exact depth_any e p m c w hi hc
theorem nodes_at {e : Ex} {x : Int} (h : (cnt e : Int) = x) (hs : Sz e) (hc : cnt e ≤ 1000000) {p : Option Addr} {m c : Nat} {w : World} (hi : In w e p m) : Calls Try.prog 16 #[.agg #[.int .i64 e.o, .string e.s, .int .i64 e.n, .slice p m c]] w (Gives (.int .i64 x) w) := by rw [← h]; exact count_any e p m c w hi hs hc
theorem names_at {e : Ex} {l : List Nm} (h : namesE e = l) (hs : Sz e) (hc : cnt e ≤ 1000000) {p : Option Addr} {m c : Nat} {w : World} (hi : In w e p m) : Calls Try.prog 23 #[.agg #[.int .i64 e.o, .string e.s, .int .i64 e.n, .slice p m c]] w (GivesT l w) := by rw [← h]; exact names_any e p m c w hi hs hc
theorem rnames_at {e : Ex} {l : List Nm} (h : namesE e = l) (hs : Sz e) (hc : cnt e ≤ 1000000) {p : Option Addr} {m c : Nat} {w : World} (hi : In w e p m) : Calls Try.prog 25 #[.agg #[.int .i64 e.o, .string e.s, .int .i64 e.n, .slice p m c]] w (GivesT l w) := by rw [← h]; exact rnames_any e p m c w hi hs hc
theorem same_at {e y : Ex} {b : Bool} (h : same e y = b) {p : Option Addr} {m c : Nat} {p2 : Option Addr} {m2 c2 : Nat} {w : World} (hx : In w e p m) (hy : In w y p2 m2) : Calls Try.prog 20 #[.agg #[.int .i64 e.o, .string e.s, .int .i64 e.n, .slice p m c], .agg #[.int .i64 y.o, .string y.s, .int .i64 y.n, .slice p2 m2 c2]] w (Gives (.bool b) w) := by rw [← h]; exact same_any e y p m c p2 m2 c2 w hx hy
theorem texts_at {l l2 : List Nm} {b : Bool} (h : decide (l = l2) = b) {p : Option Addr} {m c : Nat} {p2 : Option Addr} {m2 c2 : Nat} {w : World} (hx : Txs w p m l) (hy : Txs w p2 m2 l2) : Calls Try.prog 22 #[.slice p m c, .slice p2 m2 c2] w (Gives (.bool b) w) := by rw [← h]; exact sametx_any l l2 p m c p2 m2 c2 w hx hy
theorem const_at {t n : Int} {z : Ex} (h : cnst t n = z) (w : World) : Calls Try.prog 31 #[.int .i64 t, .int .i64 n] w (GivesE z w) := by rw [← h]; exact const_any t n w
theorem rconst_at {t n : Int} {z : Ex} (h : cnst t n = z) (w : World) : Calls Try.prog 32 #[.int .i64 t, .int .i64 n] w (GivesE z w) := by rw [← h]; exact rconst_any t n w
theorem txs_two {w : World} {x y : ByteArray} : Txs (w.alloc (.cells #[.string x, .string y] 9)) (some ⟨w.heap.size, 0, none⟩) 2 [bs x, bs y] := by
  refine ⟨rfl, by omega, .inr ⟨_, _, rfl, by simp, Lib.hid fun i hi => ?_⟩⟩
  rw [World.cell?_alloc_mark]
  match i, hi with
  | 0, _ => rfl
  | 1, _ => rfl
/-- A new block for one expression, into which nothing has been stored yet. -/
def Zb (W : World) (B : Nat) : Prop := W.heap[B]? = some (.cells #[.int .i64 0, .string mE, .int .i64 0, .slice none 0 0] 25 (0, 0))
theorem Zb.new {W : World} : Zb (W.alloc (.cells #[.int .i64 0, .string mE, .int .i64 0, .slice none 0 0] 25)) W.heap.size := World.alloc_heap_new W _
theorem Zb.on {W W2 : World} {B : Nat} (hb : Below W.heap.size W W2) (h : Zb W B) : Zb W2 B := (hb.block B (Array.getElem?_eq_some_iff.1 h).1).trans h
theorem Zb.far {W : World} {B : Nat} (h : Zb W B) : Hid (∀ W2, Below W.heap.size W W2 → Zb W2 B) := Lib.hid fun _ hb => h.on hb
theorem Zb.lt {W : World} {B : Nat} (h : Zb W B) : B < W.heap.size := (Array.getElem?_eq_some_iff.1 h).1
theorem Zb.open {W : World} {B : Nat} (h : Zb W B) : box4 W B 0 mE 0 none 0 0 ∧ frz4 W B := by
  unfold Zb at h
  refine ⟨⟨?_, ?_, ?_, ?_⟩, fun k => ?_⟩
  · unfold World.cell?; rw [h]; rfl
  · unfold World.cell?; rw [h]; rfl
  · unfold World.cell?; rw [h]; rfl
  · unfold World.cell?; rw [h]; rfl
  · unfold World.frozen?; rw [h]; simp
theorem Zb.past {W : World} {B k : Nat} (h : Zb W B) (hk : 4 ≤ k) : W.cell? ⟨B, k, none⟩ = none := by
  unfold Zb at h
  unfold World.cell?
  rw [h]
  have : (#[.int .i64 0, .string mE, .int .i64 0, .slice none 0 0] : Array Value)[k]? = none := by
    rw [Array.getElem?_eq_none_iff]; exact hk
  simp [this]
/-- An expression no node of which has one part alone does not lie in such a block. -/
theorem Zb.sep {W : World} {B : Nat} (h : Zb W B) (e : Ex) : ∀ {p m}, (∀ x ∈ pre e, x.l.length ≠ 1) → In W e p m → Kin (fun b => b ≠ B) W e p m := by
  induction e using Ex.ind with
  | h o s n l ih =>
    intro p m hl hi
    obtain ⟨h1, h2, h3 | ⟨b, o', rfl, hg, hb, h4⟩⟩ := kin_iff.1 hi
    · exact kin_iff.2 ⟨h1, h2, .inl h3⟩
    · by_cases h0 : m = 0
      · exact kin_iff.2 ⟨h1, h2, .inl h0⟩
      · have hm : 2 ≤ l.length := by
          have := hl _ (pre_self _)
          have e1 : (Ex.mk o s n l).l = l := rfl
          rw [e1] at this
          omega
        refine kin_iff.2 ⟨h1, h2, .inr ⟨b, o', rfl, ?_, hb, Lib.hid fun k hk => ?_⟩⟩
        · rintro rfl
          obtain ⟨q, j, c, h5, -⟩ := h4.out 1 (by omega)
          have := h5.1
          rw [h.past (by omega)] at this
          cases this
        · obtain ⟨q, j, c, h5, h6⟩ := h4.out k hk
          exact ⟨q, j, c, h5, ih _ (List.getElem_mem hk) (fun x hx => hl x (pre_kid (List.getElem_mem hk) hx)) h6⟩
/-- Four stores into the new block: a variable. -/
theorem Zb.var {W : World} {B : Nat} (h : Zb W B) {x : Ex} {p : Option Addr} {m c : Nat} (hi : Kin (fun b => b ≠ B) W x p m) : Var (((((W.setCell ⟨B, 0, none⟩ (.int .i64 x.o)).setCell ⟨B, 1, none⟩ (.string x.s)).setCell ⟨B, 2, none⟩ (.int .i64 x.n)).setCell ⟨B, 3, none⟩ (.slice p m c))) B x p m c :=
  ⟨set4 h.open.1 _ _ _ _ _ _, (kin_sets (kin_sets (kin_sets (kin_sets hi _) _) _) _).all⟩
end Go.Proofs.Ytfkenbdfakjeoaa.Ex
